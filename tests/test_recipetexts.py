"""Promise [37], the texts of recipes, and Recipe.read."""

import random
import re

from shapebetween.errors import DuplicateName, InvalidText, TooMany, UnknownKey, UnknownName
from shapebetween.recipes import Recipe
from shapebetween.scripts import Script
from tests.bent import TextCase, bent_texts
from tests.plain import any_values
from tests.test_recipes import drawn_rules
from tests.test_scripttexts import plain_keys

NAME = r"[a-z][a-z0-9]{0,11}"
CALL = re.compile(rf"({NAME}) \* (0|[1-9][0-9]*)\Z")
LOT = re.compile(r"touch((?: [0-9]+)+)\Z")
RULE = re.compile(rf"({NAME}) =(?: (.+))?\Z")


def plain_item(text):
    call, lot = CALL.match(text), LOT.match(text)
    if call:
        return call.group(1), int(call.group(2))
    found = plain_keys(lot.group(1)[1:].split(" ")) if lot else None
    return found and tuple(found)


def plain_rule(line):
    """The rule in a line, or None."""
    found = RULE.match(line)
    if not found:
        return None
    items = [plain_item(text) for text in found.group(2).split(", ")] if found.group(2) else []
    return None if None in items else (found.group(1), items)


def plain_reading(text):
    """The index of the first line that is not of its form, or the living keys and the rules."""
    *lines, rest = text.split("\n")
    words = lines[0].split(" ") if lines else []
    if words[:1] != ["living"] or plain_keys(words[1:]) is None:
        return 0
    rules = [plain_rule(line) for line in lines[1:]]
    if None in rules:
        return 1 + rules.index(None)
    return len(lines) if rest else (tuple(plain_keys(words[1:])), rules)


class TestTexts(TextCase):
    def test_texts_that_are_told(self):
        recipe = Recipe((1, 2, 3), [("a", []), ("b", [(1, 2), ("a", 30), (3,)]), ("touch", [("b", 0)]),
                                    ("living", [("touch", 2), (2,)])])
        text = "living 1 2 3\na =\nb = touch 1 2, a * 30, touch 3\ntouch = b * 0\nliving = touch * 2, touch 2\n"
        self.assertEqual((recipe.text(), str(recipe)), (text, text))
        self.assertEqual(Recipe.read(text=text), recipe)
        self.assertEqual((Recipe(()).text(), Recipe.read("living\n")), ("living\n", Recipe(())))

    def test_there_and_back(self):
        draw = random.Random(37)
        for at in range(150):
            living = ((1,), (0, 999), (10, 20, 30, 400))[at % 3]
            recipe = Recipe(living, drawn_rules(draw, living, draw.randrange(6), most=10 ** 30 - 1))
            self.assertEqual(Recipe.read(recipe.text()), recipe)
            self.assertEqual(Recipe.read(str(recipe)).text(), recipe.text())

    def test_bent_texts(self):
        draw, texts = random.Random(39), []
        odd_lines = ["living\n", "a =\n", "a = touch\n", "\n", "touch 1\n"]
        for at in range(30):
            living = ((1, 2), (0, 10, 20))[at % 2]
            rules = drawn_rules(draw, living, draw.randrange(1, 5), most=(3, 10 ** 30 - 1)[at % 3 == 0])
            texts += bent_texts(draw, Recipe(living, rules).text(), odd_lines, "0123456789 *=,-\nabtouch")
        seen = self.count_readings(Recipe, plain_reading, texts)
        for code in ("text", "read", "UnknownKey", "UnknownName", "DuplicateName", "TooMany"):
            self.assertGreater(seen.get(code, 0), 3, seen)

    def test_index_of_the_first_wrong_line(self):
        wrong = [
            ("", 0), ("living", 0), ("a =\n", 0), ("living 2 1\n", 0), ("living = touch 1\n", 0), ("living 1\na =", 1),
            ("living 1\na = \n", 1), ("living 1\na\n", 1), ("living 1\na=\n", 1), ("living 1\na  =\n", 1),
            ("living 1\na =touch 1\n", 1), ("living 1\na = touch\n", 1), ("living 1\na = touch 1,touch 1\n", 1),
            ("living 1\na = touch 1, \n", 1), ("living 1\na = touch 1 1\n", 1), ("living 1\na = touch 2 1\n", 1),
            ("living 1\na = touch 01\n", 1), ("living 1\na = touch 1000\n", 1), ("living 1\na = b*2\n", 1),
            ("living 1\na = b * 02\n", 1), ("living 1\na = b * -2\n", 1), ("living 1\na = b * +2\n", 1),
            ("living 1\na = b * \n", 1), ("living 1\na = B * 2\n", 1), ("living 1\nA =\n", 1), ("living 1\n1a =\n", 1),
            ("living 1\nabcdefghijklm =\n", 1), ("living 1\na = abcdefghijklm * 1\n", 1), ("living 1\n\n", 1),
            ("living 1\na =\n\n", 2), ("living 1\na =\nb", 2), ("living 1\na =\nb =\nc", 3), ("living 1\na = 1\n", 1),
            ("living 1\na = touch +1\n", 1), ("living 1\na =\n = touch 1\n", 2), ("living 1\na = touch  1\n", 1),
            ("living 1\n a =\n", 1), ("living 1\nx\na", 1), ("living 1\na = touch 1 \n", 1), ("living 1\na = b * 2 3\n", 1),
            ("living 1\na = a = touch 1\n", 1), (" living 1\n", 0), ("living 1\nb = a * 2,\n", 1), ("\nliving\n", 0),
        ]
        for text, at in wrong:
            self.check_raises(InvalidText(at), Recipe.read, text)
            self.assertEqual(plain_reading(text), at, text)
        for value in any_values():
            if not isinstance(value, str):
                self.check_raises(InvalidText(0), Recipe.read, value)

    def test_errors_of_the_constructor_come_behind_all_forms(self):
        keys = " ".join(str(key) for key in range(13))
        self.check_raises(InvalidText(2), Recipe.read, f"living {keys}\na =\n=\n")
        self.check_raises(TooMany("keys", 13), Recipe.read, f"living {keys}\na = touch 14\n")
        rules = "".join(f"r{at} =\n" for at in range(41))
        self.check_raises(TooMany("rules", 41), Recipe.read, f"living\n{rules}")
        self.check_raises(InvalidText(42), Recipe.read, f"living\n{rules}x\n")
        self.check_raises(DuplicateName("a"), Recipe.read, "living 1\na =\na = touch 2\n")
        self.check_raises(TooMany("items", 7), Recipe.read, "living 1\na = " + ", ".join(["touch 2"] * 7) + "\n")
        self.check_raises(UnknownKey(2), Recipe.read, "living 1\na = touch 1 2, a * 3\n")
        self.check_raises(UnknownName("a"), Recipe.read, "living 1\na = touch 1, a * 3, touch 2\n")
        self.check_raises(TooMany("digits", 31), Recipe.read, f"living 1\na =\nb = a * {10 ** 30}\n")
        self.assertEqual(Recipe.read(f"living 1\na =\nb = a * {10 ** 30 - 1}\n").rules()[1], ("b", (("a", 10 ** 30 - 1),)))

    def test_a_recipe_and_a_script_of_the_same_text(self):
        for text in ("living\n", "living 0\n", "living 1 20 999\n"):
            script, recipe = Script.read(text), Recipe.read(text)
            self.assertEqual((script.text(), recipe.text()), (text, text))
            self.assertEqual((script.living, recipe.living), (script.living, script.living))
            self.assertEqual((len(script), len(recipe)), (0, 0))
            self.assertFalse(script == recipe)
            self.assertFalse(recipe == script)
        self.check_raises(InvalidText(1), Recipe.read, "living 1\n1\n")
        self.check_raises(InvalidText(1), Script.read, "living 1\na =\n")


if __name__ == "__main__":
    import unittest
    unittest.main()
