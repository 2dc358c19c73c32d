"""Scripts: which keys are touched at each moment, and what that leaves to past and future."""

from shapebetween.crosswise import crosswise_tuples
from shapebetween.errors import Comes, InvalidRow, InvalidText
from shapebetween.follow import tree_behind
from shapebetween.limits import check_end, check_limit, check_times, is_number_tuple
from shapebetween.linetexts import lines_text, living_line, read_living, split_lines
from shapebetween.lots import check_living, check_same_keys, is_lot
from shapebetween.rows import Row, as_row, living_behind
from shapebetween.weaktrees import WeakTree, unmet_need


class Script:
    """The keys living at the begin and a row for each moment; it never changes."""

    MOST = 60

    def __init__(self, living, rows=()):
        check_living(living)
        self._rows = tuple(checked_rows(rows))
        self._lived = tuple(living_along(living, self._rows))
        self.living = living
        self.end = self._lived[-1]
        self.past = past_along(living, self._rows)
        self.feasible = self.past is not None
        self.future = first_touches(living, self._rows) if self.feasible else None

    def rows(self):
        """The list of the rows."""
        return list(self._rows)

    def living_at(self, moment):
        """The keys that live behind so many rows."""
        check_end(moment, len(self._lived))
        return self._lived[moment]

    def first_crosswise(self):
        """The first crosswise tuple, None if nothing is crosswise."""
        found = self.all_crosswise()
        return found[0] if found else None

    def all_crosswise(self):
        """The list of the crosswise tuples, in order."""
        return crosswise_tuples(self._lived, self._rows)

    def is_crosswise(self, value):
        """Whether any value is a crosswise tuple of the script."""
        return is_number_tuple(value, 4) and value in self.all_crosswise()

    def first_marked(self):
        """The first moment of a row with a mark, None if there is none."""
        for moment, row in enumerate(self._rows):
            if row.coming is not None or row.going is not None:
                return moment
        return None

    def touches(self):
        """The number of all touches."""
        return sum([len(row.lot) for row in self._rows])

    def text(self):
        """The line of the keys living at the begin, and a line for each row."""
        return lines_text([living_line(self.living), *[row.text() for row in self._rows]])

    @staticmethod
    def read(text):
        """The script with this text."""
        lines, rest = split_lines(text)
        living = read_living(lines)
        rows = [read_row(at, line) for at, line in enumerate(lines) if at > 0]
        if rest != "":
            raise InvalidText(len(lines))
        return Script(living, rows)

    def __add__(self, other):
        if not isinstance(other, Script):
            return NotImplemented
        check_same_keys(self.end, other.living)
        return Script(self.living, self._rows + other._rows)

    def __mul__(self, other):
        check_times(other)
        if other == 1 or not self._rows:
            return self
        if other == 0:
            return Script(self.living)
        check_same_keys(self.living, self.end)
        check_limit("moments", len(self._rows) * other)
        return Script(self.living, self._rows * other)

    def __rmul__(self, other):
        return self * other

    def __getitem__(self, at):
        check_end(at, len(self._rows))
        return self._rows[at]

    def __iter__(self):
        return iter(self._rows)

    def __str__(self):
        return f"{self.text()}"

    def __repr__(self):
        return f"Script({len(self._rows)} rows)"

    def __len__(self):
        return len(self._rows)

    def __bool__(self):
        return True

    def __eq__(self, other):
        return isinstance(other, Script) and self.living == other.living and self._rows == other._rows


def checked_rows(rows):
    """The list of the rows as Rows, if they are rows and not too many."""
    if not isinstance(rows, (list, tuple)):
        raise InvalidRow(-1)
    for at, row in enumerate(rows):
        if not isinstance(row, Row) and not is_lot(row):
            raise InvalidRow(at)
    check_limit("moments", len(rows))
    return [as_row(row) for row in rows]


def living_along(living, rows):
    """The list of the key sets that live at the begin and behind each row, if all rows fit."""
    found = [living]
    for row in rows:
        found.append(living_behind(found[-1], row))
    return found


def past_along(living, rows):
    """The past tree behind rows that fit, None if one of them cannot follow."""
    tree = WeakTree.level(living)
    for row in rows:
        if unmet_need(tree, row.lot_before()) is not None:
            return None
        tree = tree_behind(tree, row)
    return tree


def first_touches(living, rows):
    """The weak tree of the keys living at the begin in which keys are the higher, the sooner they are touched."""
    firsts = {}
    for moment, row in enumerate(rows):
        for key in row.lot:
            if key not in firsts:
                firsts[key] = moment
    return WeakTree(living, [-firsts.get(key, len(rows)) for key in living])


def check_unmarked(script):
    """Raise Comes with the first moment of a row with a mark."""
    moment = script.first_marked()
    if moment is not None:
        raise Comes(moment)


def read_row(at, line):
    """The row in the line with an index."""
    try:
        return Row.read(line)
    except InvalidText:
        raise InvalidText(at)
