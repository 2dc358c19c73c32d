"""Cells: pairs of a moment and a living key."""

from shapebetween.limits import is_number
from shapebetween.lots import lives_in, stretch_between
from shapebetween.scripts import Script


def is_cell(living, moments, value):
    """Whether any value is a pair of one of so many moments and a living key."""
    if not isinstance(value, tuple) or len(value) != 2:
        return False
    moment, key = value
    return is_number(moment) and 0 <= moment < moments and lives_in(living, key)


def box_of(living, clash):
    """The ascending list of the cells of the box of a tuple (i, j, k, x)."""
    i, j, k, x = clash
    stretch = stretch_between(living, k, x)
    return [(moment, key) for moment in range(i, j + 1) for key in stretch]


def is_touched(script, cell):
    """Whether a script touches a cell."""
    moment, key = cell
    return key in script[moment]


def with_cells(wishes, cells):
    """The script that touches cells beside the wishes."""
    lots = []
    for moment, wish in enumerate(wishes.rows()):
        lots.append(tuple([key for key in wishes.living if key in wish or (moment, key) in cells]))
    return Script(wishes.living, lots)
