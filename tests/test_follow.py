"""Promises [18] (row by row), [19] (the future tree) and [21], and the heading follow.py."""

import random

from shapebetween.errors import (AlreadyLiving, Barred, InvalidKey, InvalidLot, InvalidRow, NeighbourMissed, TooMany,
                                 UnknownKey)
from shapebetween.follow import (can_follow, future_ahead_of_row, least_coming, least_going, least_touching,
                                 past_behind_row)
from shapebetween.resolving import resolving_shapes
from shapebetween.rows import Row, check_fits, living_behind, row_fits
from shapebetween.steps import step
from shapebetween.weaktrees import WeakTree
from tests.plain import PlainCase, any_values, lots_of, plainly_closed, rows_near, shapes_on, weak_trees_on


def drawn_row(draw, living):
    """A drawn row that fits, with or without a mark."""
    while True:
        pool = sorted(set(living) | {draw.randrange(8)})
        lot = tuple(key for key in pool if draw.random() < 0.55)
        if not lot:
            continue
        fresh = [key for key in lot if key not in living]
        row = Row(lot, coming=fresh[0]) if fresh else Row(lot)
        if not fresh and draw.random() < 0.3:
            row = Row(lot, going=draw.choice(lot))
        if row_fits(living, row) and len(living_behind(living, row)) <= 5:
            return row


def reached(shapes, row):
    """The shapes that steps by the row reach from any of the shapes."""
    found = {}
    for shape in shapes:
        if shape.is_top_part(row.lot_before()):
            for arranged in shapes_on(row.lot_after()):
                later = step(shape, row, arranged)
                found[tuple(later.order())] = later
    return list(found.values())


def orders(shapes):
    return sorted(shape.order() for shape in shapes)


def small_trees():
    return [tree for living in [(), *lots_of((1, 3, 5, 7))] for tree in weak_trees_on(living)]


class TestPasts(PlainCase):
    def test_shapes_at_the_end_of_runs(self):
        draw = random.Random(18)
        barred = 0
        for _ in range(150):
            living = tuple(sorted(draw.sample(range(8), draw.randrange(5))))
            past, shapes, touched = WeakTree.level(living), shapes_on(living), {}
            for moment in range(6):
                row = drawn_row(draw, living)
                later = reached(shapes, row)
                self.assertIs(can_follow(past, row), bool(later))
                if not later:
                    barred += 1
                    with self.assertRaises(Barred):
                        past_behind_row(past, row)
                    continue
                past, shapes, living = past_behind_row(past, row), later, living_behind(living, row)
                self.assertEqual(past.living, living)
                self.assertEqual(orders(resolving_shapes(past)), orders(shapes))
                touched.update((key, 1 + moment) for key in row.lot)
                self.assertEqual(past, WeakTree(living, [touched.get(key, 0) for key in living]))
        self.assertGreater(barred, 50)

    def test_shapes_at_the_begin_of_runs(self):
        draw = random.Random(19)
        for _ in range(60):
            living = tuple(sorted(draw.sample(range(8), draw.randrange(4))))
            past, begin, rows = WeakTree.level(living), living, []
            for _ in range(4):
                row = drawn_row(draw, living)
                if can_follow(past, row):
                    rows.append(row)
                    past, living = past_behind_row(past, row), living_behind(living, row)
            future = WeakTree.level(living)
            for row in rows[::-1]:
                future = future_ahead_of_row(row, future)
            starts = []
            for shape in shapes_on(begin):
                shapes = [shape]
                for row in rows:
                    shapes = reached(shapes, row)
                if shapes:
                    starts.append(shape)
            self.assertEqual(orders(resolving_shapes(future)), orders(starts))
            first = {}
            for moment, row in enumerate(rows):
                for key in row.lot:
                    first.setdefault(key, -moment)
            self.assertEqual(future, WeakTree(begin, [first.get(key, -len(rows)) for key in begin]))


class TestRowByRow(PlainCase):
    def test_block_and_gaps(self):
        for tree in small_trees():
            for row in rows_near(tree.living, (4,)):
                if not can_follow(tree, row):
                    continue
                behind = past_behind_row(tree, row)
                self.assertEqual(behind.living, living_behind(tree.living, row))
                self.assertEqual(behind.block, row.lot_after())
                for gap in behind.gaps():
                    if gap:
                        self.assertEqual(gap, tree.cut(gap.living[0], gap.living[-1]))
                if not row.lot_after():
                    self.assertEqual(behind, WeakTree((), ()))

    def test_errors_of_all_rows(self):
        seen = set()
        for tree in small_trees():
            for row in rows_near(tree.living, (4, 9)):
                error = None
                try:
                    check_fits(tree.living, row)
                except (UnknownKey, AlreadyLiving, NeighbourMissed) as caught:
                    error = caught
                if error is None and not plainly_closed(tree, row.lot_before()):
                    with self.assertRaises(Barred) as barred:
                        past_behind_row(tree, row)
                    self.assertIn(barred.exception.key, row.lot_before())
                    self.assertNotIn(barred.exception.needed, row.lot_before())
                    self.assertIn(barred.exception.needed, tree.needs(barred.exception.key))
                    error = barred.exception
                seen.add(error and error.code)
                self.assertIs(can_follow(tree, row), error is None)
                if error is not None:
                    self.check_raises(error, past_behind_row, tree, row)
                    self.check_raises(error, future_ahead_of_row, row.backward(), tree)
                else:
                    self.assertEqual(future_ahead_of_row(row.backward(), tree), past_behind_row(tree, row))
        self.assertEqual(seen, {None, "UnknownKey", "AlreadyLiving", "NeighbourMissed", "Barred"})

    def test_errors_in_order(self):
        tree = WeakTree.read("[1] 2 [5]")
        self.check_raises(UnknownKey(3), past_behind_row, tree, (1, 3, 4))
        self.check_raises(AlreadyLiving(1), past_behind_row, tree, Row((1,), coming=1))
        self.check_raises(NeighbourMissed(3, 2), past_behind_row, tree, Row((3,), coming=3))
        self.check_raises(NeighbourMissed(0, 1), past_behind_row, tree, Row((0,), coming=0))
        self.check_raises(Barred(1, 2), past_behind_row, tree, Row((0, 1), coming=0))
        self.check_raises(Barred(1, 2), past_behind_row, tree, (1,))
        self.check_raises(Barred(1, 2), past_behind_row, tree, (1, 5))
        full = WeakTree(tuple(range(12)), list(range(12)))
        self.check_raises(TooMany("keys", 13), past_behind_row, full, Row((12,), coming=12))
        self.check_raises(UnknownKey(3), future_ahead_of_row, Row((3,), coming=3), tree)
        self.check_raises(AlreadyLiving(2), future_ahead_of_row, Row((2,), going=2), tree)
        self.check_raises(TooMany("keys", 13), future_ahead_of_row, Row((12,), going=12), full)
        self.assertEqual(past_behind_row(tree=tree, row=(2,)), tree)
        self.assertEqual(future_ahead_of_row(row=(1, 2), tree=tree).text(), "1 2 [5]")

    def test_no_row(self):
        tree = WeakTree.read("[1] 2 [3]")
        for value in [*any_values(), (), [2], 2]:
            if not isinstance(value, Row):
                self.check_raises(InvalidRow(0), past_behind_row, tree, value)
                self.check_raises(InvalidRow(0), future_ahead_of_row, value, tree)
                self.assertIs(can_follow(tree, value), False)
        self.assertIs(can_follow(tree=tree, row=(2,)), True)
        self.assertIs(can_follow(tree, Row((2, 3, 4), coming=4)), True)
        self.assertIs(can_follow(tree, Row((1, 2), going=1)), True)
        self.assertIs(can_follow(tree, (1,)), False)
        self.assertIs(can_follow(tree, (2, 7)), False)

    def test_where_nothing_lives(self):
        empty = WeakTree((), ())
        self.assertEqual(past_behind_row(empty, Row((0,), coming=0)), WeakTree((0,), (0,)))
        self.assertEqual(past_behind_row(WeakTree((0,), (0,)), Row((0,), going=0)), empty)
        self.assertEqual(future_ahead_of_row(Row((0,), going=0), empty), WeakTree((0,), (0,)))
        self.check_raises(UnknownKey(0), past_behind_row, empty, (0,))

    def test_nothing_is_changed(self):
        tree, row = WeakTree.read("[1] 2 [3]"), Row((2, 3, 4), coming=4)
        past_behind_row(tree, row)
        self.assertEqual((tree.text(), row.text()), ("[1] 2 [3]", "2 3 +4"))


class TestLeastRows(PlainCase):
    def least_of(self, tree, rows):
        """The row that can follow and whose lot lies within the lots of all others that can."""
        good = [row for row in rows if can_follow(tree, row)]
        least = min(good, key=len)
        self.assertTrue(all(set(least) <= set(row) for row in good))
        return least

    def test_least_rows_on_small_trees(self):
        for tree in small_trees():
            lots = lots_of(tree.living)
            for lot in lots:
                wanted = self.least_of(tree, [Row(other) for other in lots if set(lot) <= set(other)])
                self.assertIsInstance(least_touching(tree, lot), Row)
                self.assertEqual(least_touching(tree, lot), wanted)
            for key in (0, 4, 999):
                pool = [tuple(sorted((key, *lot))) for lot in [(), *lots]]
                self.assertEqual(least_coming(tree, key), self.least_of(tree, [Row(lot, coming=key) for lot in pool]))
            for key in tree.living:
                rows = [Row(lot, going=key) for lot in lots if key in lot]
                self.assertEqual(least_going(tree, key), self.least_of(tree, rows))

    def test_where_nothing_lives(self):
        empty = WeakTree((), ())
        self.assertEqual(least_coming(tree=empty, key=0), Row((0,), coming=0))
        self.check_raises(UnknownKey(0), least_going, empty, 0)
        self.check_raises(UnknownKey(0), least_touching, empty, (0,))
        self.assertEqual(least_going(tree=WeakTree((0,), (0,)), key=0), Row((0,), going=0))

    def test_where_twelve_live(self):
        keys = tuple(range(0, 24, 2))
        full = WeakTree(keys, [abs(key - 10) for key in keys])
        self.check_raises(TooMany("keys", 13), least_coming, full, 5)
        self.check_raises(AlreadyLiving(4), least_coming, full, 4)
        self.assertEqual(least_going(full, 22), Row((20, 22), going=22))
        self.assertEqual(least_going(full, 0), Row((0, 2, 20, 22), going=0))
        self.assertEqual(least_touching(tree=full, lot=(4,)), Row((0, 2, 4, 18, 20, 22)))

    def test_errors(self):
        tree = WeakTree.read("[0] 1 [5]")
        for value in [*any_values(), (), [1], 1]:
            self.check_raises(InvalidLot(value), least_touching, tree, value)
        self.check_raises(UnknownKey(2), least_touching, tree, (0, 2, 3))
        for value in [*any_values(), -1, 1000]:
            self.check_raises(InvalidKey(value), least_coming, tree, value)
            self.check_raises(UnknownKey(value), least_going, tree, value)
        for key in (0, 1, 5):
            self.check_raises(AlreadyLiving(key), least_coming, tree, key)
        self.check_raises(UnknownKey(7), least_going, tree, 7)
        self.assertEqual(least_coming(tree, 7), Row((1, 5, 7), coming=7))
        self.assertEqual(least_touching(tree, (0,)), Row((0, 1)))
