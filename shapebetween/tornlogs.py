"""Torn logs: which cells were touched, as far as they can be read."""

from shapebetween.cells import is_cell
from shapebetween.errors import InvalidRow, InvalidWord, NoFilling, UnknownCell
from shapebetween.fillingtables import FillingTable
from shapebetween.limits import check_end, check_limit
from shapebetween.logwords import NO, SIGNS, UNREAD, WORDS, YES, is_word, rows_with, words_of
from shapebetween.lots import check_living
from shapebetween.scripts import Script, check_unmarked


class TornLog:
    """Living keys and a word for each cell of each moment."""

    def __init__(self, living, rows=()):
        check_living(living)
        check_torn_rows(len(living), rows)
        self._rows = tuple(rows)
        self.living = living

    def rows(self):
        """The list of the rows of signs."""
        return list(self._rows)

    def write(self, moment, key, word):
        """Give a cell another word."""
        self._put((moment, key), word)

    def unread_cells(self):
        """The ascending list of the cells that are unread."""
        words = words_of(self.living, self._rows)
        return [cell for cell in words if words[cell] == UNREAD]

    def filling_count(self):
        """The number of the fillings."""
        return FillingTable(self.living, self._rows).total

    def can_be(self):
        """Whether there is a filling."""
        return self.filling_count() > 0

    def fillings(self):
        """Generate the fillings, in order."""
        table = FillingTable(self.living, self._rows)
        for number in range(table.total):
            lots = table.lots_at(number)
            yield Script(self.living, lots)

    def filling_at(self, number):
        """The filling with a number."""
        table = FillingTable(self.living, self._rows)
        check_end(number, table.total)
        return Script(self.living, table.lots_at(number))

    def sure_cells(self):
        """The dict from the sure cells to their words."""
        table = FillingTable(self.living, self._rows)
        if table.total == 0:
            raise NoFilling()
        touched = table.touch_counts()
        found = {}
        for cell in self.unread_cells():
            many = touched.get(cell, 0)
            if many in (0, table.total):
                found[cell] = NO if many == 0 else YES
        return found

    def is_filling(self, script):
        """Whether any value is a filling."""
        if not isinstance(script, Script) or not script.feasible or script.first_marked() is not None:
            return False
        if script.living != self.living or len(script) != len(self._rows):
            return False
        touched = words_of(self.living, signs_of(script, []))
        words = words_of(self.living, self._rows)
        return all([words[cell] in (UNREAD, touched[cell]) for cell in words])

    def twin(self):
        """A log of its own with the same words."""
        return TornLog(self.living, self._rows)

    def _check_cell(self, value):
        if not is_cell(self.living, len(self._rows), value):
            raise UnknownCell(value)

    def _put(self, cell, word):
        self._check_cell(cell)
        if not is_word(word):
            raise InvalidWord(word)
        rows = rows_with(self.living, self._rows, cell, word)
        check_unread(rows)
        self._rows = rows

    def __getitem__(self, at):
        self._check_cell(at)
        return words_of(self.living, self._rows)[at]

    def __setitem__(self, at, worth):
        self._put(at, worth)

    def __iter__(self):
        return iter(self._rows)

    def __len__(self):
        return len(self._rows)

    def __bool__(self):
        return True

    def __repr__(self):
        return f"TornLog({len(self._rows)} rows)"


def torn_from(script, cells):
    """The log of the touches of a script, with some cells unread."""
    check_unmarked(script)
    for value in cells:
        if not is_cell(script.living, len(script), value):
            raise UnknownCell(value)
    return TornLog(script.living, signs_of(script, cells))


def signs_of(script, unread):
    """The list of the rows of signs of the touches of a script, with some cells unread."""
    rows = []
    for moment, row in enumerate(script.rows()):
        words = [UNREAD if (moment, key) in unread else YES if key in row else NO for key in script.living]
        rows.append("".join([SIGNS[word] for word in words]))
    return rows


def check_torn_rows(size, rows):
    """Raise the first error that keeps any value from being the rows of signs for so many keys."""
    if not isinstance(rows, (list, tuple)):
        raise InvalidRow(-1)
    for at, row in enumerate(rows):
        if not isinstance(row, str) or len(row) != size or not all([sign in WORDS for sign in row]):
            raise InvalidRow(at)
    check_limit("moments", len(rows))
    check_unread(rows)


def check_unread(rows):
    """Raise TooMany if too many cells of rows of signs are unread."""
    check_limit("unread", sum([row.count(SIGNS[UNREAD]) for row in rows]))
