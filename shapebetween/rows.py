"""Rows: what is touched at a moment, and which key comes or goes."""

from shapebetween.errors import AlreadyLiving, InvalidLot, InvalidMark, InvalidRow, InvalidText
from shapebetween.errors import NeighbourMissed, TooMany, UnknownKey
from shapebetween.limits import check_limit
from shapebetween.lots import check_all_live, is_lot, key_of_word, lives_in, neighbours_of


class Row:
    """A lot that is touched at a moment, with at most one coming or going key."""

    def __init__(self, lot, *, coming=None, going=None):
        if not is_lot(lot):
            raise InvalidLot(lot)
        if coming is not None and not lives_in(lot, coming):
            raise InvalidMark(coming)
        if going is not None and (coming is not None or not lives_in(lot, going)):
            raise InvalidMark(going)
        self.lot = lot
        self.coming = coming
        self.going = going

    def lot_before(self):
        """The lot without the coming key."""
        return tuple([key for key in self.lot if key != self.coming])

    def lot_after(self):
        """The lot without the going key."""
        return tuple([key for key in self.lot if key != self.going])

    def backward(self):
        """The row read backward: the coming key goes, the going one comes."""
        return Row(self.lot, coming=self.going, going=self.coming)

    def text(self):
        """The keys, ascending, with a sign ahead of the coming or going one."""
        return " ".join([self._sign(key) + str(key) for key in self.lot])

    @staticmethod
    def read(text):
        """The row with this text."""
        if not isinstance(text, str):
            raise InvalidText(0)
        lot = []
        marks = {"+": None, "-": None}
        for word in text.split(" "):
            sign, key = split_sign(word)
            if key is None or (lot and key <= lot[-1]):
                raise InvalidText(0)
            lot.append(key)
            if sign != "":
                if marks["+"] is not None or marks["-"] is not None:
                    raise InvalidText(0)
                marks[sign] = key
        return Row(tuple(lot), coming=marks["+"], going=marks["-"])

    def _sign(self, key):
        if key == self.coming:
            return "+"
        if key == self.going:
            return "-"
        return ""

    def __str__(self):
        return f"{self.text()}"

    def __repr__(self):
        return f"Row({self.text()})"

    def __iter__(self):
        return iter(self.lot)

    def __contains__(self, key):
        return lives_in(self.lot, key)

    def __len__(self):
        return len(self.lot)

    def __eq__(self, other):
        return (isinstance(other, Row) and self.lot == other.lot
                and self.coming == other.coming and self.going == other.going)


def split_sign(word):
    """The sign ahead of a key, or the empty string, and the key, None if the word writes none."""
    if word.startswith("+") or word.startswith("-"):
        return word[0], key_of_word(word[1:])
    return "", key_of_word(word)


def as_row(value):
    """The row itself, or the row without marks for a lot."""
    if isinstance(value, Row):
        return value
    if not is_lot(value):
        raise InvalidRow(0)
    return Row(value)


def check_fits(living, row):
    """Raise the first error that keeps a row from fitting the living keys."""
    taken = as_row(row)
    check_all_live(living, taken.lot_before())
    if taken.coming is not None:
        if taken.coming in living:
            raise AlreadyLiving(taken.coming)
        check_limit("keys", len(living) + 1)
        check_neighbours(living, taken, taken.coming)
    if taken.going is not None:
        check_neighbours(living, taken, taken.going)


def check_neighbours(living, row, key):
    """Raise NeighbourMissed if a neighbour of the coming or going key is not touched."""
    for neighbour in neighbours_of(living, key):
        if neighbour is not None and neighbour not in row.lot:
            raise NeighbourMissed(key, neighbour)


def row_fits(living, row):
    """Whether a row fits the living keys."""
    try:
        check_fits(living, row)
    except (UnknownKey, AlreadyLiving, TooMany, NeighbourMissed):
        return False
    return True


def living_behind(living, row):
    """The keys that live behind a row that fits."""
    taken = as_row(row)
    check_fits(living, taken)
    return keys_behind(living, taken)


def keys_behind(living, row):
    """The keys that live behind a Row that is known to fit."""
    staying = [key for key in living if key != row.going]
    if row.coming is not None:
        staying.append(row.coming)
    return tuple(sorted(staying))
