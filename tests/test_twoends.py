"""Promises [18], [19], [23] and [30] for scripts that grow at both ends, and the heading twoends.py."""

import random

from shapebetween.errors import (AlreadyLiving, Barred, InvalidLot, InvalidRow, Missing, NeighbourMissed, NotMeeting,
                                 OtherKeys, ShapeError, TooMany, UnknownKey)
from shapebetween.follow import future_ahead_of_row, past_behind_row
from shapebetween.meeting import Meeting
from shapebetween.rows import Row
from shapebetween.scripts import Script
from shapebetween.twoends import TwoEnds
from shapebetween.weaktrees import WeakTree
from tests.drawn import drawn_living, drawn_row, feasible_script
from tests.plain import PlainCase, any_values


def of_script(script):
    """The two-ended script with these rows, put last one by one."""
    ends = TwoEnds(script.living)
    for row in script:
        ends.put_last(row)
    return ends


def keys_ahead(living, row):
    """The keys that live ahead of a row behind which these keys live."""
    return tuple(sorted((set(living) - {row.coming}) | ({row.going} - {None})))


class TestTwoEnds(PlainCase):
    def check_state(self, ends, living, rows):
        script = Script(living, rows)
        self.assertIs(script.feasible, True)
        self.assertEqual((ends.past_tree, ends.future_tree), (script.past, script.future))
        self.assertEqual((ends.at_begin, ends.at_end), (script.living, script.end))
        self.assertEqual(ends.written_out(), script)
        self.assertEqual((len(ends), bool(ends), repr(ends)), (len(rows), True, f"TwoEnds({len(rows)} rows)"))

    def test_drawn_rows_at_both_ends(self):
        draw, done, refused = random.Random(19), 0, 0
        for _ in range(60):
            living = drawn_living(draw)
            ends, rows = TwoEnds(living), []
            for _ in range(10):
                last = draw.random() < 0.5
                if last:
                    row = drawn_row(draw, ends.at_end)
                    longer, begin = [*rows, row], living
                else:
                    row = drawn_row(draw, ends.at_begin).backward()
                    longer, begin = [row, *rows], keys_ahead(living, row)
                fits = Script(begin, longer).feasible
                self.assertIs((ends.can_last if last else ends.can_first)(row), fits)
                put = ends.put_last if last else ends.put_first
                if fits:
                    self.assertIsNone(put(row))
                    rows, living, done = longer, begin, done + 1
                else:
                    self.check_barred(ends, last, row)
                    refused += 1
                self.check_state(ends, living, rows)
        self.assertGreater(min(done, refused), 50)

    def check_barred(self, ends, last, row):
        with self.assertRaises(Barred) as caught:
            if last:
                past_behind_row(ends.past_tree, row)
            else:
                future_ahead_of_row(row, ends.future_tree)
        self.check_raises(caught.exception, ends.put_last if last else ends.put_first, row)

    def test_begin(self):
        for living in ((), (3,), (0, 999), tuple(range(12))):
            self.check_state(TwoEnds(living), living, [])
        self.check_state(TwoEnds(), (), [])
        self.check_state(TwoEnds(living=(1,)), (1,), [])
        for value in any_values():
            if value != ():
                self.check_raises(InvalidLot(value), TwoEnds, value)
        self.check_raises(TooMany("keys", 13), TwoEnds, tuple(range(13)))

    def test_refused_rows(self):
        ends = TwoEnds((0, 2, 5))
        ends.put_last((2,))
        for value in [*any_values(), (), [2], 2]:
            if not isinstance(value, Row):
                self.check_raises(InvalidRow(0), ends.put_last, value)
                self.check_raises(InvalidRow(0), ends.put_first, value)
                self.assertEqual((ends.can_last(value), ends.can_first(value)), (False, False))
        last = [(UnknownKey(1), (1, 3)), (AlreadyLiving(2), Row((2,), coming=2)), (Barred(0, 2), (0,)),
                (NeighbourMissed(3, 2), Row((3,), coming=3)), (NeighbourMissed(2, 5), Row((0, 2), going=2))]
        for error, row in last:
            self.check_raises(error, ends.put_last, row)
            self.assertIs(ends.can_last(row=row), False)
            if isinstance(row, Row):
                self.check_raises(error, ends.put_first, row.backward())
                self.assertIs(ends.can_first(row.backward()), False)
        self.check_raises(Barred(0, 2), ends.put_first, (0,))
        self.assertIs(ends.can_first(row=(0, 2)), True)
        self.check_state(ends, (0, 2, 5), [Row((2,))])
        # Read backward a going key comes, so it may not live at the begin.
        self.check_raises(AlreadyLiving(0), ends.put_first, Row((0, 2), going=0))
        self.check_raises(UnknownKey(3), ends.put_first, Row((2, 3, 5), coming=3))
        ends.put_first(row=Row((2, 3, 5), going=3))
        ends.put_last(row=Row((0, 2), going=0))
        self.check_state(ends, (0, 2, 3, 5), [Row((2, 3, 5), going=3), Row((2,)), Row((0, 2), going=0)])

    def test_twelve_live(self):
        full = TwoEnds(tuple(range(12)))
        self.check_raises(TooMany("keys", 13), full.put_last, Row((11, 12), coming=12))
        self.check_raises(TooMany("keys", 13), full.put_first, Row((11, 12), going=12))
        self.assertEqual((full.can_last(Row((11, 12), coming=12)), full.can_first(Row((11, 12), going=12))),
                         (False, False))

    def test_sixty_rows(self):
        ends = TwoEnds((1, 2))
        for at in range(60):
            (ends.put_last if at % 2 else ends.put_first)((1, 2))
        for put, can in ((ends.put_last, ends.can_last), (ends.put_first, ends.can_first)):
            self.check_raises(TooMany("moments", 61), put, (1, 2))
            self.check_raises(TooMany("moments", 61), put, (7,))
            self.check_raises(InvalidRow(0), put, None)
            self.assertIs(can((1, 2)), False)
        self.check_state(ends, (1, 2), [(1, 2)] * 60)


class TestJoined(PlainCase):
    def test_joined(self):
        draw, met = random.Random(23), {True: 0, False: 0}
        for _ in range(150):
            first = feasible_script(draw, drawn_living(draw), draw.randrange(5))
            second = feasible_script(draw, first.end, draw.randrange(5))
            one, other = of_script(first), of_script(second)
            whole = Script(first.living, first.rows() + second.rows())
            met[whole.feasible] += 1
            if whole.feasible:
                both = one.joined(other)
                self.assertEqual(both.written_out(), whole)
                self.assertEqual((both.past_tree, both.future_tree), (whole.past, whole.future))
                both.put_last(both.at_end or Row((1,), coming=1))
                self.assertEqual(len(both), len(whole) + 1)
            else:
                k, x = Meeting(first.past, second.future).crossing
                self.check_raises(NotMeeting(k, x), one.joined, other)
            self.assertEqual((one.written_out(), other.written_out()), (first, second))
        self.assertGreater(min(met.values()), 12)

    def test_errors_in_order(self):
        many, more = TwoEnds((1, 2)), TwoEnds((1, 2))
        for at in range(31):
            many.put_last((1, 2))
            more.put_last((1, 2))
        one, other = of_script(Script((1, 2), [(1,)])), of_script(Script((1, 2), [(2,)]))
        self.check_raises(OtherKeys(0), many.joined, TwoEnds((0, 1, 2)))
        self.check_raises(OtherKeys(2), many.joined, TwoEnds((1, 3)))
        self.check_raises(OtherKeys(3), many.joined, of_script(Script((1, 2, 3), [(1, 2)] * 31)))
        self.check_raises(TooMany("moments", 62), many.joined, more)
        self.check_raises(NotMeeting(1, 2), one.joined, other)
        self.check_raises(NotMeeting(2, 1), other.joined, one)
        longer = of_script(Script((1, 2), [(1, 2)] * 59 + [(2,)]))
        self.check_raises(TooMany("moments", 61), longer.joined, one)
        shorter = of_script(Script((1, 2), [(1, 2)] * 58 + [(2,)]))
        self.check_raises(NotMeeting(2, 1), shorter.joined, one)
        self.assertEqual(len(shorter.joined(other=other)), 60)

    def test_joined_with_itself(self):
        ends = of_script(Script((1, 2, 3), [(1, 2)]))
        both = ends.joined(ends)
        both.put_first((2,))
        self.assertEqual((len(ends), len(both)), (1, 3))
        self.assertEqual(both.past_tree, WeakTree.read("1 2 [3]"))
        keyed = of_script(Script((1,), [Row((1, 2), coming=2)]))
        self.check_raises(OtherKeys(2), keyed.joined, keyed)

    def test_signed_errors_only(self):
        # Whatever is refused raises an error of the package and leaves the rows as they were.
        draw = random.Random(24)
        for _ in range(60):
            ends = of_script(feasible_script(draw, drawn_living(draw), 3))
            written = ends.written_out()
            row = drawn_row(draw, drawn_living(draw))
            for put, can in ((ends.put_last, ends.can_last), (ends.put_first, ends.can_first)):
                if not can(row):
                    with self.assertRaises((ShapeError, Missing)):
                        put(row)
                    self.assertEqual(ends.written_out(), written)


if __name__ == "__main__":
    import unittest
    unittest.main()
