"""Promises [13], [18] and [21] as stores keep them, and the heading stores.py."""

import random

from shapebetween.errors import (AlreadyLiving, Barred, DuplicateKey, InvalidKey, InvalidLot, InvalidRow, Missing,
                                 NeighbourMissed, ShapeError, TooMany, UnknownKey)
from shapebetween.follow import can_follow, least_coming, least_going, least_touching, past_behind_row
from shapebetween.rows import Row
from shapebetween.stores import Store
from shapebetween.weaktrees import WeakTree
from tests.drawn import drawn_living, drawn_row, plain_past
from tests.plain import PlainCase, any_values, lots_of


class TestStores(PlainCase):
    def check_state(self, store, begun, rows):
        """The store says what the rows, put behind each other, say."""
        past = plain_past(begun, rows)
        self.assertEqual(store.tree, past)
        self.assertEqual(store.present, past.living)
        self.assertEqual(store.age, len(rows))
        self.assertEqual(store.past_rows(), rows)
        self.assertEqual(store.begun_with(), begun)
        self.assertEqual(store.next_count, sum(can_follow(past, lot) for lot in lots_of(past.living)))
        self.assertEqual((len(store), bool(store)), (len(past.living), True))
        self.assertEqual(repr(store), f"Store({past.text()})")

    def draw_deed(self, draw, store):
        """A call of the store and the row that it should apply; keys come in any order, some wrong or doubled."""
        row = drawn_row(draw, store.present)
        if draw.random() < 0.2:
            return (lambda: store.apply(row)), row
        keys = list(row.lot)
        draw.shuffle(keys)
        first = row.coming if row.coming is not None else row.going
        if first is None:
            return (lambda: store.touch(*keys)), row
        keys.remove(first)
        if row.coming is not None:
            return (lambda: store.come(first, *keys)), row
        return (lambda: store.go(first, *keys)), row

    def test_drawn_deeds(self):
        draw, done, refused = random.Random(18), 0, 0
        for _ in range(60):
            begun = drawn_living(draw)
            store, rows = Store(begun), []
            for _ in range(10):
                deed, row = self.draw_deed(draw, store)
                past = plain_past(begun, rows)
                self.assertIs(store.can(row), can_follow(past, row))
                if can_follow(past, row):
                    self.assertIsNone(deed())
                    rows.append(row)
                    done += 1
                else:
                    with self.assertRaises(Barred) as caught:
                        past_behind_row(past, row)
                    self.check_raises(caught.exception, deed)
                    refused += 1
                self.check_state(store, begun, rows)
        self.assertGreater(min(done, refused), 80)

    def test_begin(self):
        for living in [(), *lots_of((0, 7, 999)), tuple(range(12))]:
            store = Store(living)
            self.assertEqual((store.tree, store.age, store.past_rows()), (WeakTree.level(living), 0, []))
            self.assertEqual((store.begun_with(), store.present), (living, living))
        self.assertEqual((Store().present, Store().next_count, len(Store()), bool(Store())), ((), 0, 0, True))
        self.assertEqual(repr(Store()), "Store(.)")
        self.assertEqual(Store(living=tuple(range(12))).next_count, 4095)
        for value in any_values():
            if value != ():
                self.check_raises(InvalidLot(value), Store, value)
        self.check_raises(TooMany("keys", 13), Store, tuple(range(13)))

    def test_no_limit_on_moments(self):
        store = Store((1, 2))
        for _ in range(200):
            store.touch(2, 1)
        self.assertEqual((store.age, len(store.past_rows()), store.tree), (200, 200, WeakTree.level((1, 2))))

    def test_everything_goes_and_comes(self):
        store = Store((5,))
        store.go(5)
        self.assertEqual((store.present, store.tree, store.next_count, repr(store)), ((), WeakTree((), ()), 0,
                                                                                      "Store(.)"))
        self.check_raises(UnknownKey(5), store.touch, 5)
        self.check_raises(UnknownKey(5), store.go, 5)
        store.come(0)
        self.assertEqual((store.present, store.age, store.past_rows()),
                         ((0,), 2, [Row((5,), going=5), Row((0,), coming=0)]))


class TestRefusedDeeds(PlainCase):
    def setUp(self):
        self.store = Store((0, 2, 5))
        self.store.touch(2)

    def check_refused(self, error, deed, *args):
        self.check_raises(error, deed, *args)
        self.assertEqual((self.store.tree.text(), self.store.age), ("[0] 2 [5]", 1))
        self.assertEqual(self.store.past_rows(), [Row((2,))])

    def test_values_that_are_no_keys(self):
        for value in [*any_values(), (2,), 1000]:
            self.check_refused(InvalidKey(value), self.store.touch, value)
            self.check_refused(InvalidKey(value), self.store.touch, 2, 2, value, None)
            self.check_refused(InvalidKey(value), self.store.come, value, 2, 2)
            self.check_refused(InvalidKey(value), self.store.come, 3, 3, value, "")
            self.check_refused(InvalidKey(value), self.store.go, value)
            self.check_refused(InvalidKey(value), self.store.go, 0, 2, 0, value)

    def test_doubled_keys(self):
        self.check_refused(DuplicateKey(9), self.store.touch, 8, 9, 9, 8)
        self.check_refused(DuplicateKey(3), self.store.come, 3, 2, 3, 2)
        self.check_refused(DuplicateKey(2), self.store.come, 3, 2, 2, 3)
        self.check_refused(DuplicateKey(0), self.store.go, 0, 0)

    def test_other_errors_in_order(self):
        self.check_refused(InvalidLot(()), self.store.touch)
        self.check_refused(UnknownKey(3), self.store.touch, 4, 0, 3)
        self.check_refused(Barred(0, 2), self.store.touch, 5, 0)
        self.check_refused(UnknownKey(4), self.store.come, 2, 4)
        self.check_refused(AlreadyLiving(2), self.store.come, 2)
        self.check_refused(NeighbourMissed(3, 2), self.store.come, 3)
        self.check_refused(NeighbourMissed(3, 5), self.store.come, 3, 2)
        self.check_refused(Barred(5, 2), self.store.come, 6, 5)
        self.check_refused(UnknownKey(3), self.store.go, 3)
        self.check_refused(UnknownKey(4), self.store.go, 2, 4)
        self.check_refused(NeighbourMissed(2, 0), self.store.go, 2)
        self.check_refused(NeighbourMissed(2, 5), self.store.go, 2, 0)
        self.store.go(0, 2)
        self.assertEqual(self.store.tree.text(), "2 [5]")

    def test_twelve_live(self):
        store = Store(tuple(range(12)))
        self.check_raises(TooMany("keys", 13), store.come, 12)
        self.check_raises(UnknownKey(13), store.come, 12, 13)
        self.check_raises(AlreadyLiving(11), store.come, 11)
        self.assertEqual(store.age, 0)

    def test_apply(self):
        for value in [*any_values(), (), [2], 2]:
            if not isinstance(value, Row):
                self.check_refused(InvalidRow(0), self.store.apply, value)
        self.check_refused(UnknownKey(1), self.store.apply, Row((1, 2)))
        self.store.apply(row=(0, 2))
        self.store.apply(Row((0, 1, 2), coming=1))
        self.assertEqual(self.store.past_rows(), [Row((2,)), Row((0, 2)), Row((0, 1, 2), coming=1)])

    def test_can_of_any_value(self):
        for value in [*any_values(), (), [2], 2, (0,), Row((3,), coming=3), (1,), Row((2,), going=2)]:
            self.assertIs(self.store.can(value), False, value)
        for value in [(2,), (0, 2), Row((2, 5)), Row((0, 1, 2), coming=1), Row((2, 3, 5), coming=3)]:
            self.assertIs(self.store.can(row=value), True)
        self.assertEqual(self.store.age, 1)

    def test_keys_in_store(self):
        for value in [*any_values(), 1, 3, (2,)]:
            self.assertIs(value in self.store, False)
        self.assertEqual([key in self.store for key in (0, 2, 5)], [True, True, True])
        self.assertIs(True in Store((0, 1)), False)


class TestLeastRows(PlainCase):
    def test_as_in_follow(self):
        draw = random.Random(21)
        for _ in range(40):
            store = Store(drawn_living(draw))
            for _ in range(5):
                row = drawn_row(draw, store.present)
                if store.can(row):
                    store.apply(row)
            tree = store.tree
            calls = [(store.least_touch, least_touching, lot) for lot in [*lots_of(tree.living), (), (8, 9), None]]
            calls += [(store.least_come, least_coming, key) for key in [*range(10), None, -1]]
            calls += [(store.least_go, least_going, key) for key in [*range(10), None, -1]]
            for mine, plain, value in calls:
                try:
                    wanted = plain(tree, value)
                except (ShapeError, Missing) as error:
                    self.check_raises(error, mine, value)
                    continue
                self.assertEqual(mine(value), wanted)
                self.assertIsInstance(mine(value), Row)
                self.assertIs(store.can(mine(value)), True)
            self.assertEqual(store.tree, tree)
        self.assertEqual(Store((1,)).least_touch(lot=(1,)), Row((1,)))
        self.assertEqual(Store((1,)).least_come(key=2), Row((1, 2), coming=2))
        self.assertEqual(Store((1,)).least_go(key=1), Row((1,), going=1))


class TestTwins(PlainCase):
    def test_twins_change_by_themselves(self):
        store = Store((0, 2, 5))
        store.touch(2)
        other = store.twin()
        third = other.twin()
        self.assertEqual((other.tree, other.age, other.begun_with()), (store.tree, 1, (0, 2, 5)))
        other.go(0, 2)
        store.touch(5, 2)
        self.assertEqual((store.tree.text(), store.age), ("[0] 2 5", 2))
        self.assertEqual((other.tree.text(), other.age, other.present), ("2 [5]", 2, (2, 5)))
        self.assertEqual((third.tree.text(), third.age, third.past_rows()), ("[0] 2 [5]", 1, [Row((2,))]))
        self.assertEqual(other.begun_with(), (0, 2, 5))

    def test_lists_that_are_told_may_be_changed(self):
        store = Store((0, 2, 5))
        store.touch(2)
        store.past_rows().append(Row((0,)))
        self.assertEqual((store.age, store.past_rows()), (1, [Row((2,))]))


if __name__ == "__main__":
    import unittest
    unittest.main()
