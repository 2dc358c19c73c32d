"""Promise [13] and the heading closed.py."""

import random

from shapebetween.closed import (closed_around, closed_at, closed_count, closed_lots, closed_number, is_closed,
                                 missing_need)
from shapebetween.errors import InvalidLot, NotClosed, PastEnd, UnknownKey
from shapebetween.weaktrees import WeakTree
from tests.plain import PlainCase, any_values, key_sets, lots_of, plainly_closed, weak_needs, weak_numbers, weak_trees_on


def some_trees():
    draw = random.Random(13)
    found = [tree for size in range(5) for keys in key_sets(size) for tree in weak_trees_on(keys)]
    for size in (5, 6, 7):
        for _ in range(25):
            found.append(WeakTree(key_sets(size)[-1], [draw.randint(0, 4) for _ in range(size)]))
    return found


def plain_missing(tree, lot):
    """The missing need, looked for by all keys and by how many keys stand between."""
    numbers = weak_numbers(tree)
    for key in lot:
        outside = [k for k in weak_needs(tree.living, numbers, key) if k not in lot]
        if outside:
            between = [(len([x for x in tree.living if min(k, key) < x < max(k, key)]), k) for k in outside]
            return (key, min(between)[1])
    return None


class TestClosed(PlainCase):
    def test_closed_lots_listed_counted_and_numbered(self):
        for tree in some_trees():
            plain = [lot for lot in lots_of(tree.living) if plainly_closed(tree, lot)]
            self.assertEqual(list(closed_lots(tree)), plain)
            self.assertEqual(closed_count(tree), len(plain))
            for number, lot in enumerate(plain):
                self.assertEqual(closed_at(tree, number), lot)
                self.assertEqual(closed_number(tree, lot), number)
            self.check_raises(PastEnd(len(plain), len(plain)), closed_at, tree, len(plain))

    def test_each_lot(self):
        for tree in some_trees():
            for lot in lots_of(tree.living):
                missing = plain_missing(tree, lot)
                self.assertIs(is_closed(tree, lot), plainly_closed(tree, lot))
                self.assertEqual(missing_need(tree, lot), missing)
                numbers = weak_numbers(tree)
                wanted = set(lot).union(*(weak_needs(tree.living, numbers, key) for key in lot))
                around = closed_around(tree, lot)
                self.assertEqual(around, tuple(sorted(wanted)))
                self.assertTrue(plainly_closed(tree, around))
                if missing is not None:
                    self.check_raises(NotClosed(*missing), closed_number, tree, lot)
                    self.check_raises(NotClosed(*missing), tree.kept, lot)

    def test_least_closed_lot(self):
        for tree in weak_trees_on((1, 2, 3, 4)):
            closed = [lot for lot in lots_of(tree.living) if plainly_closed(tree, lot)]
            for lot in lots_of(tree.living):
                holding = [other for other in closed if set(lot) <= set(other)]
                self.assertEqual(closed_around(tree, lot), holding[0])
                self.assertTrue(all(set(holding[0]) <= set(other) for other in holding))

    def test_nearest_needed_key(self):
        tree = WeakTree.read("1 [2] 3")
        self.assertEqual(missing_need(tree, (2,)), (2, 1))
        self.assertEqual(missing_need(tree, (1, 2)), (2, 3))
        tree = WeakTree.read("1 [2 5] 100")
        self.assertEqual(missing_need(tree, (5,)), (5, 100))
        self.assertEqual(missing_need(tree, (2, 5)), (2, 1))
        tree = WeakTree.read("[[[1] 2] 3] 4")
        self.assertEqual(missing_need(tree, (1,)), (1, 2))
        self.assertEqual(missing_need(tree, (1, 2, 4)), (1, 3))
        self.assertEqual(missing_need(tree=tree, lot=(3, 4)), None)

    def test_twelve_keys(self):
        keys = tuple(range(0, 36, 3))
        level = WeakTree.level(keys)
        self.assertEqual(closed_count(level), 4095)
        self.assertEqual([closed_at(level, 0), closed_at(level, 4094)], [(0,), keys])
        self.assertEqual(list(closed_lots(level)), lots_of(keys))
        for number in (1, 11, 12, 77, 2000, 4093):
            self.assertEqual(closed_at(level, number), lots_of(keys)[number])
            self.assertEqual(closed_number(level, lots_of(keys)[number]), number)
        chain = WeakTree(keys, keys)
        self.assertEqual(list(closed_lots(chain)), [keys[at:] for at in range(11, -1, -1)])
        self.assertEqual(closed_count(chain), 12)

    def test_wrong_lots(self):
        tree = WeakTree.read("[0] 1 [5]")
        for function in (is_closed, missing_need, closed_around, closed_number):
            for value in [*any_values(), (), [1], (5, 1), 1]:
                self.check_raises(InvalidLot(value), function, tree, value)
                self.check_raises(InvalidLot(value), function, tree=tree, lot=value)
            self.check_raises(UnknownKey(2), function, tree, (0, 2, 3))
            self.check_raises(UnknownKey(1), function, WeakTree((), ()), (1,))

    def test_wrong_numbers(self):
        tree = WeakTree.read("[0] 1 [5]")
        for number in [-1, 4, 10 ** 1499, True, False, None, "0", (0,), [0], {}, tree]:
            self.check_raises(PastEnd(number, 4), closed_at, tree, number)
        self.check_raises(PastEnd(0, 0), closed_at, WeakTree((), ()), 0)
        self.assertEqual(closed_count(WeakTree((), ())), 0)
        self.assertEqual(list(closed_lots(tree=WeakTree((), ()))), [])
        self.assertEqual(closed_at(tree=tree, number=3), (0, 1, 5))

    def test_listed_within_one_another(self):
        tree = WeakTree.read("[1] 2 [3]")
        pairs = [(one, other) for one in closed_lots(tree) for other in closed_lots(tree)]
        self.assertEqual(len(pairs), 16)
        self.assertEqual(list(closed_lots(tree)), [(2,), (1, 2), (2, 3), (1, 2, 3)])
