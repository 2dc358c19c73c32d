"""Promise [29], and the heading turning.py."""

import random

from shapebetween.errors import (AlreadyLiving, DuplicateKey, InvalidKey, InvalidRow, NeighbourMissed, NotTop,
                                 OtherKeys, TooMany, UnknownKey)
from shapebetween.rows import Row, row_fits
from shapebetween.shapes import Shape
from shapebetween.turning import Halves, Keep, Lift, Soonest
from shapebetween.weaktrees import WeakTree
from tests.drawn import drawn_tree, plain_behind
from tests.plain import (PlainCase, any_values, inserted, keys_of, lots_of, order_of, path_of, plain_trees, rows_near,
                         shape_of)


def plain_halves(keys):
    if not keys:
        return []
    at = (len(keys) - 1) // 2
    return [keys[at]] + plain_halves(keys[:at]) + plain_halves(keys[at + 1:])


def plain_kept(tree, row):
    order = [key for key in order_of(tree) if key in row.lot and key != row.going]
    return order + ([row.coming] if row.coming is not None else [])


def plain_lift(tree, row, favourites):
    order = plain_kept(tree, row)
    for key in favourites:
        if key in order:
            order.remove(key)
            return [key] + order
    return order


def plain_soonest(row, rest):
    level = dict(zip(rest.living, rest.levels()))
    return [key for _, key in sorted((level[key], key) for key in row.lot if key != row.going)]


def plain_turned(tree, row, order):
    """The touched keys take the shape of their order, and the untouched keys hang below in their old order."""
    found = None
    for key in order + [key for key in order_of(tree) if key not in row.lot]:
        found = inserted(found, key)
    return found


def is_top(tree, part):
    return all(above in part for key in part for above in path_of(tree, key))


def cases():
    """All plain trees on small key sets with all rows by which they can take a step."""
    for keys in [(), *lots_of((1, 3, 5, 7))]:
        rows = [row for row in rows_near(keys, (4,)) if row_fits(keys, row)]
        for tree in plain_trees(keys):
            for row in rows:
                if is_top(tree, row.lot_before()):
                    yield tree, row


class TestRules(PlainCase):
    def test_all_small_steps(self):
        draw, many = random.Random(29), 0
        for tree, row in cases():
            behind = plain_behind(keys_of(tree), row)
            rest = drawn_tree(draw, behind)
            shape = shape_of(tree)
            liked = draw.sample((1, 3, 4, 5, 7, 9), draw.randrange(5))
            wanted = [(Keep(), plain_kept(tree, row)), (Halves(), plain_halves([k for k in row.lot if k != row.going])),
                      (Lift(*liked), plain_lift(tree, row, liked)), (Lift(), plain_kept(tree, row)),
                      (Soonest(), plain_soonest(row, rest))]
            for rule, order in wanted:
                self.assertEqual(rule.ordered(shape, row, rest), order)
                self.assertEqual(rule(shape, row, rest), shape_of(plain_turned(tree, row, order)))
            many += 1
        self.assertGreater(many, 400)

    def test_rows_as_lots_and_by_name(self):
        shape, rest = Shape(2, 1, 3), WeakTree.level((1, 2, 3))
        for rule in (Keep(), Halves(), Lift(3), Soonest()):
            self.assertEqual(rule(shape, (1, 2), rest), rule(shape=shape, row=Row((1, 2)), rest=rest))
            self.assertEqual(rule.ordered(shape, (1, 2), rest), rule.ordered(shape=shape, row=Row((1, 2)), rest=rest))
        self.assertEqual(Keep()(shape, (1, 2), rest), shape)
        self.assertEqual(Halves()(shape, (1, 2), rest), Shape(1, 2, 3))
        self.assertEqual(Lift(3, 1)(shape, (1, 2), rest), Shape(1, 2, 3))
        self.assertEqual(Lift(3, 1)(shape, (1, 2, 3), rest), Shape(3, 2, 1))
        self.assertEqual(Soonest()(shape, (1, 2, 3), WeakTree.read("[1] 2 [3]")), Shape(2, 1, 3))
        self.assertEqual(Soonest()(shape, (1, 2, 3), WeakTree.read("1 [[2] 3]")), Shape(1, 3, 2))

    def test_halves_of_many_keys(self):
        keys = tuple(range(12))
        self.assertEqual(Halves().ordered(Shape(*keys), keys, WeakTree.level(keys)),
                         [5, 2, 0, 1, 3, 4, 8, 6, 7, 10, 9, 11])

    def test_favourites(self):
        self.assertEqual(Lift(3, 1).favourites(), [3, 1])
        self.assertEqual([rule.favourites() for rule in (Lift(), Keep(), Halves(), Soonest())], [[], [], [], []])
        many = tuple(range(300))
        self.assertEqual(Lift(*many).favourites(), list(many))
        rule = Lift(3, 1)
        rule.favourites().clear()
        self.assertEqual(rule.favourites(), [3, 1])
        # A favourite that goes, or that is not touched, is none for this row.
        shape = Shape(2, 1, 3)
        self.assertEqual(Lift(1, 3).ordered(shape, Row((1, 2, 3), going=1), WeakTree.level((2, 3))), [3, 2])
        self.assertEqual(Lift(1, 4).ordered(shape, Row((2, 3, 4), coming=4), WeakTree.level((1, 2, 3, 4))), [4, 2, 3])
        self.assertEqual(Lift(9, 1).ordered(shape, (2, 3), WeakTree.level((1, 2, 3))), [2, 3])

    def test_wrong_favourites(self):
        for value in [*any_values(), (1,), 1000]:
            self.check_raises(InvalidKey(value), Lift, value)
            self.check_raises(InvalidKey(value), Lift, 1, 1, value, None)
        self.check_raises(DuplicateKey(1), Lift, 3, 1, 1, 3)
        self.check_raises(DuplicateKey(3), Lift, 3, 1, 3, 1)

    def test_words(self):
        rules = [(Keep, "keep", "Keep()"), (Halves, "halves", "Halves()"), (Soonest, "soonest", "Soonest()"),
                 (Lift, "lift", "Lift()")]
        for kind, word, text in rules:
            self.assertEqual((kind.word, kind().word, repr(kind())), (word, word, text))
            self.assertEqual(kind.__bases__, (object,) if kind is Keep else (Keep,))
        self.assertEqual((repr(Lift(3, 1)), repr(Lift(0))), ("Lift(3, 1)", "Lift(0)"))

    def test_errors_in_order(self):
        shape, rest = Shape(2, 1, 5), WeakTree.level((1, 2, 5))
        for rule in (Keep(), Halves(), Lift(1), Soonest()):
            for ask in (rule, rule.ordered):
                for value in [*any_values(), (), [2], 2]:
                    if not isinstance(value, Row):
                        self.check_raises(InvalidRow(0), ask, shape, value, rest)
                self.check_raises(UnknownKey(3), ask, shape, (1, 3, 4), rest)
                self.check_raises(AlreadyLiving(1), ask, shape, Row((1,), coming=1), rest)
                self.check_raises(NeighbourMissed(3, 2), ask, shape, Row((3,), coming=3), rest)
                self.check_raises(NotTop(1), ask, shape, (1,), WeakTree.level((1, 2)))
                self.check_raises(NotTop(5), ask, shape, Row((5, 6), coming=6), rest)
                self.check_raises(OtherKeys(5), ask, shape, (2,), WeakTree.level((1, 2)))
                self.check_raises(OtherKeys(3), ask, shape, Row((2, 3, 5), coming=3), rest)
                self.check_raises(OtherKeys(1), ask, shape, Row((1, 2), going=1), rest)
                full = Shape(*range(12))
                self.check_raises(TooMany("keys", 13), ask, full, Row((12,), coming=12), rest)

    def test_nothing_is_changed(self):
        shape, row, rest = Shape(2, 1, 3), Row((1, 2)), WeakTree.read("1 [2] 3")
        for rule in (Keep(), Halves(), Lift(1), Soonest()):
            rule(shape, row, rest)
            rule.ordered(shape, row, rest).clear()
        self.assertEqual((shape, row, rest), (Shape(2, 1, 3), Row((1, 2)), WeakTree.read("1 [2] 3")))


if __name__ == "__main__":
    import unittest
    unittest.main()
