"""Promise [36], and the heading recipes.py (texts: test_recipetexts.py)."""

import random

from shapebetween.errors import (DuplicateName, InvalidItem, InvalidLot, InvalidRule, PastEnd, TooMany, UnknownKey,
                                 UnknownName)
from shapebetween.follow import can_follow, past_behind_row
from shapebetween.forms import Form
from shapebetween.recipes import Recipe
from shapebetween.rows import Row
from shapebetween.scripts import Script
from shapebetween.weaktrees import WeakTree
from tests.drawn import drawn_lot, plain_future, plain_past
from tests.plain import PlainCase, any_values, no_numbers
from tests.test_forms import parts, plain_idle

NAMES = ["a", "touch", "living", "b2", "z", "abcdefghijkl"]


def plain_lots(rules, name):
    """The lots of the rows of a rule, written plainly."""
    found = []
    for item in dict(rules)[name]:
        if isinstance(item[0], int):
            found.append(item)
        else:
            called, times = item
            found += plain_lots(rules, called) * times
    return found


def plain_parts(living, lots):
    """The parts of the form of the script with these lots, which may be longer than a Script."""
    tree = WeakTree.level(living)
    for lot in lots:
        if not can_follow(tree, lot):
            return living, False, None, None, ()
        tree = past_behind_row(tree, lot)
    rows = [Row(lot) for lot in lots]
    return living, True, plain_past(living, rows), plain_future(living, rows), plain_idle(living, rows)


def drawn_rules(draw, living, many, most=3):
    """Drawn rules with few and with calm rows, so that many of them are feasible."""
    rules = []
    for name in draw.sample(NAMES, many):
        items = []
        for _ in range(draw.randrange(5)):
            if rules and draw.random() < 0.6:
                items.append((draw.choice(rules)[0], draw.randrange(most + 1)))
            else:
                items.append(drawn_lot(draw, living, draw.choice((0.3, 0.6, 0.9))))
        rules.append((name, items))
    return rules


class TestRules(PlainCase):
    def test_drawn_recipes(self):
        draw, seen = random.Random(36), {"feasible": 0, "not": 0, "written": 0, "long": 0}
        for at in range(150):
            living = ((1, 2), (0, 4, 9), (1, 3, 5, 7))[at % 3]
            rules = drawn_rules(draw, living, draw.randrange(1, 7), most=(2, 7)[at % 2])
            recipe = Recipe(living, rules)
            for name, _ in rules:
                lots = plain_lots(rules, name)
                if len(lots) > 300:
                    continue
                form = recipe.form(name)
                self.assertEqual(parts(form), plain_parts(living, lots))
                self.assertEqual(recipe.moments(name), len(lots))
                self.assertEqual(recipe.touches(name), sum(len(lot) for lot in lots))
                self.assertEqual([recipe.lot_at(name, moment) for moment in range(len(lots))], lots)
                self.check_raises(PastEnd(len(lots), len(lots)), recipe.lot_at, name, len(lots))
                seen["feasible" if form.feasible else "not"] += 1
                if len(lots) <= 60:
                    self.assertEqual(recipe.written(name), Script(living, lots))
                    self.assertEqual(form, Form(recipe.written(name)))
                    seen["written"] += 1
                else:
                    self.check_raises(TooMany("moments", len(lots)), recipe.written, name)
                    seen["long"] += 1
        self.assertGreater(min(seen.values()), 15, seen)

    def test_thirty_digits(self):
        most = 10 ** 30 - 1
        recipe = Recipe((1, 2, 3), [("a", [(1,), (1, 2)]), ("b", [(2, 3), ("a", most), (3,)]), ("c", [("b", most)] * 6),
                                    ("d", [("c", 0), (1, 2, 3)]), ("e", [(2,), (1, 2), ("d", 10 ** 29)])])
        self.assertEqual([recipe.moments(name) for name in "abcde"],
                         [2, 2 * most + 2, 6 * most * (2 * most + 2), 1, 2 + 10 ** 29])
        self.assertEqual([recipe.touches(name) for name in "abcde"],
                         [3, 3 * most + 3, 6 * most * (3 * most + 3), 3, 3 + 3 * 10 ** 29])
        self.assertEqual([recipe.lot_at("b", at) for at in (0, 1, 2, 2 * most, 2 * most + 1)],
                         [(2, 3), (1,), (1, 2), (1, 2), (3,)])
        self.assertEqual([recipe.lot_at("c", 6 * most * (2 * most + 2) - at) for at in (1, 2, 3)], [(3,), (1, 2), (1,)])
        self.assertEqual(recipe.lot_at("c", 3 * most * (2 * most + 2)), (2, 3))
        self.check_raises(TooMany("moments", 2 * most + 2), recipe.written, "b")
        self.assertEqual(recipe.written("d"), Script((1, 2, 3), [(1, 2, 3)]))
        self.assertEqual(recipe.form("e"), Form(Script((1, 2, 3), [(2,), (1, 2), (1, 2, 3), (1, 2, 3)])))
        self.assertEqual([recipe.form(name).feasible for name in "abcde"], [True, False, False, True, True])

    def test_forty_rules(self):
        # Each rule calls the one before it six times, so the last one has 6 ** 39 times the rows of the first one.
        names = [f"r{at}" for at in range(40)]
        rules = [(names[0], [(1, 2)])] + [(name, [(earlier, 10 ** 30 - 1)] * 6)
                                          for earlier, name in zip(names, names[1:])]
        recipe = Recipe((1, 2, 3), rules)
        many = (6 * (10 ** 30 - 1)) ** 39
        self.assertEqual((recipe.moments("r39"), recipe.touches("r39")), (many, 2 * many))
        self.assertEqual(repr(recipe.form("r39")), "Form(1 2 [3] | 1 2 [3] | .)")
        self.assertEqual([recipe.lot_at("r39", at) for at in (0, many // 2, many - 1)], [(1, 2)] * 3)
        self.check_raises(PastEnd(many, many), recipe.lot_at, "r39", many)
        self.check_raises(TooMany("moments", many), recipe.written, "r39")
        empty = Recipe((1, 2, 3), [(names[0], [])] + rules[1:])
        self.assertEqual((empty.moments("r39"), empty.touches("r39")), (0, 0))
        self.assertEqual(empty.written("r39"), Script((1, 2, 3)))
        self.assertEqual(empty.form("r39"), Form(Script((1, 2, 3))))
        self.check_raises(PastEnd(0, 0), empty.lot_at, "r39", 0)
        never = Recipe((1, 2, 3), rules[:39] + [("r39", [("r38", 0)] * 5 + [(3,)])])
        self.assertEqual((never.moments("r39"), never.written("r39")), (1, Script((1, 2, 3), [(3,)])))

    def test_sixty_rows(self):
        recipe = Recipe((1, 2), [("a", [(1, 2), (2,)]), ("b", [("a", 30)]), ("c", [("b", 1), ("b", 0)]),
                                 ("d", [("c", 1), (1,)])])
        self.assertEqual(recipe.written("c"), Script((1, 2), [(1, 2), (2,)] * 30))
        self.check_raises(TooMany("moments", 61), recipe.written, "d")

    def test_names_and_moments(self):
        recipe = Recipe((1, 2), [("a", [(1,), (2,)]), ("b", [])])
        for ask in (recipe.form, recipe.moments, recipe.touches, recipe.written):
            for value in [*any_values(), "c", "A", ["a"], ("a",)]:
                if value not in ("a", "b"):
                    self.check_raises(UnknownName(value), ask, value)
        for value in [*no_numbers(), -1, 2, 10 ** 1499]:
            self.check_raises(PastEnd(value, 2), recipe.lot_at, "a", value)
            self.check_raises(UnknownName("c"), recipe.lot_at, "c", value)
        self.assertEqual(recipe.lot_at(name="a", moment=1), (2,))
        self.assertEqual((recipe.moments(name="a"), recipe.touches(name="a")), (2, 2))
        self.assertEqual((recipe.form(name="b"), recipe.written(name="b")), (Form(Script((1, 2))), Script((1, 2))))

    def test_names_in_recipe(self):
        recipe = Recipe((1, 2), [("b", [(1,)]), ("a", [("b", 2)])])
        self.assertEqual((recipe.names(), len(recipe), bool(recipe)), (["b", "a"], 2, True))
        self.assertEqual(["a" in recipe, "b" in recipe, "c" in recipe], [True, True, False])
        for value in any_values():
            if value != "a":
                self.assertIs(value in recipe, False)
        self.assertEqual((repr(recipe), repr(Recipe(())), repr(Recipe((1,), [("a", ())]))),
                         ("Recipe(2 rules)", "Recipe(0 rules)", "Recipe(1 rules)"))
        self.assertEqual((bool(Recipe(())), len(Recipe(())), Recipe(()).rules()), (True, 0, []))

    def test_equality(self):
        recipe = Recipe((1, 2), [("b", [(1,)]), ("a", [("b", 2), (1,)])])
        self.assertEqual(recipe, Recipe(living=(1, 2), rules=(("b", ((1,),)), ("a", (("b", 2), (1,))))))
        others = [Recipe((1, 2, 3), recipe.rules()), Recipe((1, 2), [("b", [(1,)])]), Recipe((1, 2)),
                  Recipe((1, 2), [("b", [(1,)]), ("a", [(1,), ("b", 2)])]), None, Script((1, 2)),
                  Recipe((1, 2), [("b", [(1,)]), ("c", [("b", 2), (1,)])]), recipe.rules()]
        for other in others:
            self.assertFalse(recipe == other)
        self.assertEqual(Recipe((1,)), Recipe((1,), ()))


class TestConstructor(PlainCase):
    def test_living(self):
        for value in any_values():
            if value != ():
                self.check_raises(InvalidLot(value), Recipe, value, None)
        self.check_raises(TooMany("keys", 13), Recipe, tuple(range(13)), None)
        self.assertEqual(Recipe(tuple(range(12))).living, tuple(range(12)))

    def test_rules(self):
        for value in any_values():
            if not isinstance(value, (list, tuple)):
                self.check_raises(InvalidRule(-1), Recipe, (1,), value)
        self.check_raises(TooMany("rules", 41), Recipe, (1,), [None] * 41)
        good = [(f"r{at}", []) for at in range(40)]
        self.assertEqual(len(Recipe((1,), good)), 40)
        wrong = [*any_values(), ("a",), ("a", [], []), ["a", []], ("A", []), ("a", None), ("a", {}), ("a", "x"), ([], "a"),
                 ("1", []), ("", ()), ("abcdefghijklm", []), (True, []), ("a", Script((1,)))]
        for value in wrong:
            self.check_raises(InvalidRule(2), Recipe, (1,), [*good[:2], value, None])

    def test_errors_rule_by_rule(self):
        long = [(1,)] * 7
        self.check_raises(DuplicateName("a"), Recipe, (1,), [("a", []), ("b", []), ("a", long), None])
        self.check_raises(TooMany("items", 7), Recipe, (1,), [("a", [None] * 7)])
        self.check_raises(TooMany("items", 7), Recipe, (1,), [("a", long), ("a", [])])
        self.check_raises(UnknownKey(2), Recipe, (1,), [("a", [(1, 2, 3), None]), None])
        self.check_raises(InvalidRule(1), Recipe, (1,), [("a", [(1,)]), None, ("a", long)])
        self.assertEqual(len(Recipe((1,), [("a", long[:6])]).rules()[0][1]), 6)

    def test_items(self):
        calls = [("b", 1, 1), ("B", 1), ("b", -1), ("b", True), ("b", None), ["b", 1], ("b", "1"), (1, "b"), ("b",),
                 ("", 1), ("b", -10 ** 39), [1], 1]
        for value in [*any_values(), *calls]:
            if value not in ((1,), (0, 1)):
                rules = [("b", [(1,)]), ("a", [(1,), ("b", 2), value, None]), None]
                self.check_raises(InvalidItem(1, 2), Recipe, (1,), rules)
        rules = [("b", [(1,)]), ("a", ((1,), ("b", 0), ("b", 10 ** 30 - 1)))]
        self.assertEqual(Recipe((1,), rules).rules()[1], ("a", ((1,), ("b", 0), ("b", 10 ** 30 - 1))))

    def test_keys_names_and_digits_item_by_item(self):
        self.check_raises(UnknownKey(0), Recipe, (1, 2), [("a", [(0, 1, 3), None])])
        self.check_raises(UnknownKey(3), Recipe, (1, 2), [("a", [(1, 3, 4)])])
        self.check_raises(UnknownKey(1), Recipe, (), [("a", [(1,)])])
        self.check_raises(UnknownName("b"), Recipe, (1, 2), [("a", [("b", 10 ** 30), (3,)]), ("b", [])])
        self.check_raises(UnknownName("a"), Recipe, (1, 2), [("a", [("a", 1)])])
        self.check_raises(TooMany("digits", 31), Recipe, (1, 2), [("b", []), ("a", [("b", 10 ** 30), None])])
        self.check_raises(TooMany("digits", 40), Recipe, (1, 2), [("b", []), ("a", [("b", 10 ** 40 - 1)])])
        self.check_raises(InvalidItem(0, 0), Recipe, (1, 2), [("a", [None, (3,)])])

    def test_lists_may_be_changed(self):
        items, rules = [(1,), (2,)], []
        rules.append(("a", items))
        recipe = Recipe((1, 2), rules)
        items.append((1, 2))
        rules.append(None)
        self.assertEqual(recipe.rules(), [("a", ((1,), (2,)))])
        recipe.rules().append(None)
        recipe.names().append("x")
        self.assertEqual((recipe.rules(), recipe.names()), ([("a", ((1,), (2,)))], ["a"]))
        self.assertEqual(recipe.written("a"), Script((1, 2), [(1,), (2,)]))


class TestWithRule(PlainCase):
    def setUp(self):
        self.recipe = Recipe((1, 2), [("a", [(1,)]), ("b", [("a", 2)]), ("c", [("b", 2), (2,)])])

    def test_changed_and_added(self):
        changed = self.recipe.with_rule("b", [("a", 3), (2,)])
        self.assertEqual(changed, Recipe((1, 2), [("a", [(1,)]), ("b", [("a", 3), (2,)]), ("c", [("b", 2), (2,)])]))
        self.assertEqual((changed.moments("c"), self.recipe.moments("c")), (9, 5))
        added = self.recipe.with_rule(name="d", items=(("c", 1),))
        self.assertEqual(added.rules(), self.recipe.rules() + [("d", (("c", 1),))])
        self.assertEqual(self.recipe.names(), ["a", "b", "c"])
        # What the old recipe has told already does not stay.
        self.assertEqual(repr(self.recipe.form("c")), "Form(not feasible)")
        self.assertEqual(self.recipe.with_rule("a", [(1, 2)]).form("c"), Form(Script((1, 2), [(1, 2), (2,)])))
        self.assertEqual(Recipe(()).with_rule("a", []).names(), ["a"])

    def test_errors(self):
        with_rule = self.recipe.with_rule
        for value in [*any_values(), "A", ("a",)]:
            if value != "a":
                self.check_raises(InvalidRule(3), with_rule, value, [])
        for value in any_values():
            if not isinstance(value, (list, tuple)):
                self.check_raises(InvalidRule(1), with_rule, "b", value)
                self.check_raises(InvalidRule(3), with_rule, "d", value)
        self.check_raises(UnknownName("b"), with_rule, "b", [("b", 1)])
        self.check_raises(UnknownName("c"), with_rule, "a", [(1,), ("c", 1)])
        self.check_raises(UnknownName("d"), with_rule, "d", [("d", 1)])
        self.check_raises(InvalidItem(1, 1), with_rule, "b", [(1,), None, (3,)])
        self.check_raises(InvalidItem(3, 0), with_rule, "d", [()])
        self.check_raises(UnknownKey(3), with_rule, "c", [(1, 3)])
        self.check_raises(TooMany("items", 7), with_rule, "c", [(1,)] * 7)
        self.check_raises(TooMany("digits", 31), with_rule, "c", [("a", 10 ** 30)])
        full = Recipe((1,), [(f"r{at}", []) for at in range(40)])
        self.check_raises(TooMany("rules", 41), full.with_rule, "a", None)
        self.check_raises(TooMany("rules", 41), full.with_rule, None, [])
        self.assertEqual(full.with_rule("r39", [("r0", 1)]).rules()[39], ("r39", (("r0", 1),)))
        self.assertEqual(self.recipe.rules(), [("a", ((1,),)), ("b", (("a", 2),)), ("c", (("b", 2), (2,)))])


if __name__ == "__main__":
    import unittest
    unittest.main()
