"""Past and future trees row by row, and the least rows that can follow."""

from shapebetween.closed import closed_around
from shapebetween.errors import AlreadyLiving, Barred, InvalidKey
from shapebetween.limits import check_limit
from shapebetween.lots import check_lives, is_key, is_lot, neighbours_of
from shapebetween.rows import Row, as_row, check_fits, keys_behind, row_fits
from shapebetween.weaktrees import WeakTree, unmet_need


def past_behind_row(tree, row):
    """The past tree behind a row that can follow a past tree."""
    taken = as_row(row)
    check_fits(tree.living, taken)
    missing = unmet_need(tree, taken.lot_before())
    if missing is not None:
        key, needed = missing
        raise Barred(key, needed)
    return tree_behind(tree, taken)


def tree_behind(tree, row):
    """The past tree behind a Row that is known to be able to follow."""
    levels = tree.levels()
    behind = keys_behind(tree.living, row)
    # Levels are never below 0, so the touched keys have the greatest number.
    return WeakTree(behind, [1 if key in row.lot else -levels[tree.living.index(key)] for key in behind])


def future_ahead_of_row(row, tree):
    """The future tree of a script that begins with the row, ahead of a future tree."""
    return past_behind_row(tree, as_row(row).backward())


def can_follow(tree, row):
    """Whether any value is a row that can follow a past tree."""
    if not isinstance(row, Row) and not is_lot(row):
        return False
    taken = as_row(row)
    return row_fits(tree.living, taken) and unmet_need(tree, taken.lot_before()) is None


def can_be_ahead(row, tree):
    """Whether any value is a row that can be put ahead of a script with this future tree."""
    if not isinstance(row, Row) and not is_lot(row):
        return False
    return can_follow(tree, as_row(row).backward())


def least_touching(tree, lot):
    """The least row for a lot of living keys."""
    return Row(closed_around(tree, lot))


def least_coming(tree, key):
    """The least row by which a key can come."""
    if not is_key(key):
        raise InvalidKey(key)
    if key in tree.living:
        raise AlreadyLiving(key)
    check_limit("keys", len(tree.living) + 1)
    return Row(tuple(sorted([key, *around_neighbours(tree, key)])), coming=key)


def least_going(tree, key):
    """The least row by which a living key can go."""
    check_lives(tree.living, key)
    beside = living_neighbours(tree.living, key)
    return Row(closed_around(tree, tuple(sorted([key, *beside]))), going=key)


def around_neighbours(tree, key):
    """The least closed lot around the neighbours of a key, empty if nothing lives."""
    beside = living_neighbours(tree.living, key)
    return closed_around(tree, beside) if beside else ()


def living_neighbours(living, key):
    """The one or two neighbours of a key, or none, as a key set."""
    return tuple([other for other in neighbours_of(living, key) if other is not None])
