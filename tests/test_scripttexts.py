"""Promise [37], the texts of scripts, and Script.read."""

import random
import re

from shapebetween.errors import AlreadyLiving, InvalidText, NeighbourMissed, TooMany, UnknownKey
from shapebetween.rows import Row
from shapebetween.scripts import Script
from tests.bent import TextCase, bent_texts
from tests.drawn import drawn_living, drawn_script
from tests.plain import any_values

KEY = re.compile(r"(0|[1-9][0-9]{0,2})\Z")


def plain_keys(words):
    """The keys that words write, or None."""
    if not all(KEY.match(word) for word in words):
        return None
    found = [int(word) for word in words]
    return found if found == sorted(set(found)) else None


def plain_row(line):
    """The row in a line, or None."""
    words = line.split(" ")
    signs = [word[0] for word in words if word[:1] in ("+", "-")]
    found = plain_keys([word[1:] if word[:1] in ("+", "-") else word for word in words])
    if not found or len(signs) > 1:
        return None
    marks = {word[0]: int(word[1:]) for word in words if word[0] in "+-"}
    return Row(tuple(found), coming=marks.get("+"), going=marks.get("-"))


def plain_reading(text):
    """The index of the first line that is not of its form, or the living keys and the rows."""
    lines = text.split("\n")
    for at, line in enumerate(lines):
        last = at == len(lines) - 1
        if last and line == "" and at > 0:
            break
        if at == 0:
            good = line.split(" ")[0] == "living" and plain_keys(line.split(" ")[1:]) is not None
        else:
            good = plain_row(line) is not None
        if last or not good:
            return at
    return tuple(plain_keys(lines[0].split(" ")[1:])), [plain_row(line) for line in lines[1:-1]]


class TestTexts(TextCase):
    def test_texts_that_are_told(self):
        self.assertEqual(Script((2, 4), [(2, 4), Row((2, 3, 4), coming=3), Row((3, 4), going=4), (2, 3)]).text(),
                         "living 2 4\n2 4\n2 +3 4\n3 -4\n2 3\n")
        self.assertEqual(Script(()).text(), "living\n")
        self.assertEqual(Script((0, 999)).text(), "living 0 999\n")
        self.assertEqual(str(Script((0,), [(0,)])), "living 0\n0\n")

    def test_there_and_back(self):
        draw = random.Random(37)
        for at in range(150):
            script = drawn_script(draw, drawn_living(draw, pool=999), draw.randrange(7), pool=999)
            self.assertEqual(Script.read(script.text()), script)
            self.assertEqual(Script.read(text=str(script)).text(), script.text())

    def test_bent_texts(self):
        draw, texts = random.Random(38), []
        odd_lines = ["living\n", "1\n", "1 +2\n", "\n", " \n", "2 1\n"]
        for _ in range(40):
            script = drawn_script(draw, drawn_living(draw, pool=120), draw.randrange(1, 6), pool=120)
            texts += bent_texts(draw, script.text(), odd_lines, "0123456789 +-\nalx,=*[.")
        seen = self.count_readings(Script, plain_reading, texts)
        for code in ("text", "read", "UnknownKey", "AlreadyLiving", "NeighbourMissed"):
            self.assertGreater(seen[code], 5, seen)

    def test_index_of_the_first_wrong_line(self):
        wrong = [
            ("", 0), ("\n", 0), ("living", 0), ("living 1", 0), ("living 1 \n", 0), ("living  1\n", 0), (" living\n", 0),
            ("living 2 1\n", 0), ("living 1 1\n", 0), ("living 01\n", 0), ("living 1000\n", 0), ("living +1\n", 0),
            ("Living 1\n", 0), ("living1\n", 0), ("living\n\n", 1), ("living 1\n1", 1), ("living 1\n1\n\n", 2),
            ("living 1\n1\n1", 2), ("living 1\n2 1\n1\n", 1), ("living 1\n+1 -2\n", 1), ("living 1\n1 \n", 1),
            ("living 1\n 1\n", 1), ("living 1\n1\n1 01\n1", 2), ("living 1\nliving 1\n", 1), ("living 1\n1\n+\n", 2),
            ("living 1\n1,2\n", 1), ("1\nliving 1\n", 0), ("living 1\n--1\n", 1), ("living -1\n\n", 0), (".", 0),
        ]
        for text, at in wrong:
            self.check_raises(InvalidText(at), Script.read, text)
            self.assertEqual(plain_reading(text), at, text)

    def test_values_that_are_no_strings(self):
        for value in any_values():
            if not isinstance(value, str):
                self.check_raises(InvalidText(0), Script.read, value)

    def test_errors_of_the_constructor_come_behind_all_forms(self):
        many = " ".join(str(key) for key in range(13))
        self.check_raises(InvalidText(1), Script.read, f"living {many}\n2 1\n")
        self.check_raises(TooMany("keys", 13), Script.read, f"living {many}\n" + "14\n" * 61)
        self.check_raises(InvalidText(62), Script.read, "living 1\n" + "2\n" * 61 + "x\n")
        self.check_raises(TooMany("moments", 61), Script.read, "living 1\n" + "2\n" * 61)
        self.check_raises(UnknownKey(2), Script.read, "living 1\n1\n1 2\n+1\n")
        self.check_raises(AlreadyLiving(1), Script.read, "living 1\n+1\n")
        self.check_raises(NeighbourMissed(2, 1), Script.read, "living 1\n+2\n")
        self.assertEqual(len(Script.read("living 1\n" + "1\n" * 60)), 60)


if __name__ == "__main__":
    import unittest
    unittest.main()
