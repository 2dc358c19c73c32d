"""Promises [5] and [6] and the heading rows.py."""

import itertools

from shapebetween.errors import (AlreadyLiving, InvalidLot, InvalidMark, InvalidRow, InvalidText, NeighbourMissed,
                                 TooMany, UnknownKey)
from shapebetween.rows import Row, as_row, check_fits, living_behind, row_fits
from shapebetween.shapes import Shape
from tests.plain import PlainCase, any_values, lots_of, rows_near


def marked_rows():
    return [*rows_near((1, 2, 30), ()), Row((0,), coming=0), Row((0, 999), going=0), Row(tuple(range(20)), going=19)]


class TestRows(PlainCase):
    def test_attributes(self):
        row = Row((2, 3, 4), coming=3)
        self.assertEqual((row.lot, row.coming, row.going), ((2, 3, 4), 3, None))
        row = Row(lot=(0, 3), going=0)
        self.assertEqual((row.lot, row.coming, row.going), ((0, 3), None, 0))

    def test_wrong_lots(self):
        for value in [*any_values(), (), [1, 2], 3]:
            self.check_raises(InvalidLot(value), Row, value)
            self.check_raises(InvalidLot(value), Row, value, coming=True, going="a")

    def test_wrong_marks(self):
        for value in [*any_values(), 0, 3, 999, (1,)]:
            if value is not None:
                self.check_raises(InvalidMark(value), Row, (1, 2), coming=value)
                self.check_raises(InvalidMark(value), Row, (1, 2), going=value)
                self.check_raises(InvalidMark(value), Row, (1, 2), coming=1, going=value)
                self.check_raises(InvalidMark(value), Row, (1, 2), coming=value, going=7)
        self.check_raises(InvalidMark(True), Row, (0, 1), coming=True)
        self.check_raises(InvalidMark(False), Row, (0, 1), going=False)

    def test_both_marks(self):
        self.check_raises(InvalidMark(2), Row, (1, 2), coming=1, going=2)
        self.check_raises(InvalidMark(1), Row, (1, 2), coming=1, going=1)

    def test_marks_by_name_only(self):
        with self.assertRaises(TypeError):
            Row((1, 2), 1)

    def test_lots_before_and_after(self):
        for row in marked_rows():
            self.assertEqual(row.lot_before(), tuple(key for key in row.lot if key != row.coming))
            self.assertEqual(row.lot_after(), tuple(key for key in row.lot if key != row.going))
        self.assertEqual(Row((0, 1), coming=0).lot_before(), (1,))
        self.assertEqual(Row((0, 1), going=0).lot_after(), (1,))
        self.assertEqual(Row((0,), going=0).lot_after(), ())

    def test_backward(self):
        for row in marked_rows():
            back = row.backward()
            self.assertEqual((back.lot, back.coming, back.going), (row.lot, row.going, row.coming))
            self.assertEqual(back.backward(), row)
            self.assertEqual(back.lot_before(), row.lot_after())

    def test_text(self):
        self.assertEqual(Row((2, 3, 4), coming=3).text(), "2 +3 4")
        self.assertEqual(Row((0, 10, 999), going=0).text(), "-0 10 999")
        self.assertEqual(str(Row((7,))), "7")
        self.assertEqual(repr(Row((2, 3, 4), coming=3)), "Row(2 +3 4)")
        for row in marked_rows():
            self.assertEqual(str(row), row.text())
            self.assertEqual(repr(row), f"Row({row.text()})")

    def test_read(self):
        for row in marked_rows():
            again = Row.read(row.text())
            self.assertIsInstance(again, Row)
            self.assertEqual(again, row)
            self.assertEqual((again.lot, again.coming, again.going), (row.lot, row.coming, row.going))
        self.assertEqual(Row.read(text="1 +2"), Row((1, 2), coming=2))

    def test_read_no_text(self):
        wrong = ["", " ", "1 ", " 1", "1  2", "2 1", "1 1", "+1 +2", "+1 -2", "-1 -2", "-1 +2", "01", "1 02", "00", "+",
                 "-", "1 +", "++1", "+-1", "1000", "-1000", "1,2", "1\n", "1\n2", "1 2\n", "a", "1 a", "1+", "1 + 2", ".",
                 "[1]", "1\t2", "+01", "1 +1", "9" * 300]
        for value in [*any_values(), *wrong]:
            self.check_raises(InvalidText(0), Row.read, value)

    def test_read_changed_texts(self):
        good = {row.text() for row in rows_near((0, 1, 2, 3, 10, 11, 12), ())}
        for start in ("1 2", "+1 2", "1 -2", "0 10", "3"):
            changed = set()
            for at in range(len(start) + 1):
                changed.add(start[:at] + start[at + 1:])
                for sign in "0123+- .":
                    changed.add(start[:at] + sign + start[at:])
                    changed.add(start[:at] + sign + start[at + 1:])
            for text in changed:
                if all(len(word.strip("+-")) < 3 and word.strip("+-") in ("", "0", "1", "2", "3", "10", "11", "12")
                       for word in text.split(" ")):
                    if text in good:
                        self.assertEqual(Row.read(text).text(), text)
                    else:
                        self.check_raises(InvalidText(0), Row.read, text)

    def test_keys_of_a_row(self):
        row = Row((0, 1, 5), coming=5)
        self.assertEqual(list(row), [0, 1, 5])
        self.assertEqual(len(row), 3)
        for key in (0, 1, 5):
            self.assertIs(key in row, True)
        for value in [*any_values(), 2, 999, True, False, (0, 1, 5)]:
            self.assertIs(value in row, False)

    def test_equal(self):
        for one, other in itertools.product(marked_rows(), repeat=2):
            same = one.text() == other.text()
            self.assertIs(one == other, same)
            self.assertIs(one != other, not same)
        self.assertEqual(Row((1, 2)), Row((1, 2)))
        for value in [(1, 2), "1 2", None, Shape(1, 2), [1, 2]]:
            self.assertIs(Row((1, 2)) == value, False)
            self.assertIs(value == Row((1, 2)), False)

    def test_as_row(self):
        row = Row((1, 2), going=2)
        self.assertIs(as_row(row), row)
        self.assertEqual(as_row((1, 2)), Row((1, 2)))
        for value in any_values():
            if not isinstance(value, Row):
                self.check_raises(InvalidRow(0), as_row, value)
        self.check_raises(InvalidRow(0), as_row, ())
        self.check_raises(InvalidRow(0), as_row, [1, 2])


def plain_fault(living, row):
    """The error of [6], told as a tuple, or None."""
    unknown = [key for key in row.lot if key != row.coming and key not in living]
    if unknown:
        return ("UnknownKey", min(unknown))
    if row.coming is not None and row.coming in living:
        return ("AlreadyLiving", row.coming)
    if row.coming is not None and len(living) >= 12:
        return ("TooMany", "keys", 13)
    marked = row.coming if row.coming is not None else row.going
    if marked is not None:
        keys = sorted(set(living) | {marked})
        at = keys.index(marked)
        missed = [key for key in keys[max(0, at - 1):at] + keys[at + 1:at + 2] if key not in row.lot]
        if missed:
            return ("NeighbourMissed", marked, min(missed))
    return None


ERRORS = {"UnknownKey": UnknownKey, "AlreadyLiving": AlreadyLiving, "TooMany": TooMany,
          "NeighbourMissed": NeighbourMissed}


class TestFits(PlainCase):
    def test_all_rows_near_small_key_sets(self):
        seen = set()
        for living in [(), *lots_of((1, 3, 5, 7))]:
            for row in rows_near((1, 3, 5, 7), (4,)):
                fault = plain_fault(living, row)
                self.assertIs(row_fits(living, row), fault is None)
                if fault is None:
                    seen.add(None)
                    self.assertIsNone(check_fits(living, row))
                    behind = sorted((set(living) | set(row.lot)) - {row.going})
                    self.assertEqual(living_behind(living, row), tuple(behind))
                else:
                    seen.add(fault[0])
                    error = ERRORS[fault[0]](*fault[1:])
                    self.check_raises(error, check_fits, living, row)
                    self.check_raises(error, living_behind, living, row)
        self.assertEqual(seen, {None, "UnknownKey", "AlreadyLiving", "NeighbourMissed"})

    def test_each_error_ahead_of_the_later_ones(self):
        full = tuple(range(0, 24, 2))
        self.check_raises(UnknownKey(1), check_fits, full, Row((0, 1, 3), coming=0))
        self.check_raises(AlreadyLiving(4), check_fits, full, Row((4,), coming=4))
        self.check_raises(TooMany("keys", 13), check_fits, full, Row((5,), coming=5))
        self.check_raises(TooMany("keys", 13), check_fits, full, Row((4, 5, 6), coming=5))
        self.check_raises(NeighbourMissed(5, 4), check_fits, full[:11], Row((5,), coming=5))
        self.check_raises(NeighbourMissed(5, 6), check_fits, full[:11], Row((4, 5), coming=5))
        self.check_raises(NeighbourMissed(4, 2), check_fits, full, Row((4,), going=4))
        self.check_raises(NeighbourMissed(4, 6), check_fits, full, Row((2, 4), going=4))
        self.check_raises(NeighbourMissed(2, 0), check_fits, (0, 2), Row((2,), going=2))
        self.check_raises(UnknownKey(3), check_fits, full, Row((3,), going=3))
        self.assertIsNone(check_fits(full, Row((2, 4, 6), going=4)))
        self.assertIsNone(check_fits(full[:11], Row((4, 5, 6), coming=5)))

    def test_no_row_ahead_of_all(self):
        for value in [*any_values(), (), [1, 2]]:
            if not isinstance(value, Row):
                self.check_raises(InvalidRow(0), check_fits, (7,), value)
                self.check_raises(InvalidRow(0), living_behind, (7,), value)

    def test_lots_in_the_place_of_rows(self):
        self.assertIsNone(check_fits((1, 2, 3), (1, 3)))
        self.assertIsNone(check_fits(living=(1, 2, 3), row=(1, 3)))
        self.assertEqual(living_behind((1, 2, 3), (2,)), (1, 2, 3))
        self.check_raises(UnknownKey(4), check_fits, (1, 2, 3), (1, 4, 5))

    def test_where_nothing_lives(self):
        self.assertEqual(living_behind((), Row((0,), coming=0)), (0,))
        self.assertEqual(living_behind((0,), Row((0,), going=0)), ())
        self.check_raises(UnknownKey(1), check_fits, (), Row((1, 2), coming=2))
        self.check_raises(UnknownKey(2), check_fits, (), (2,))
