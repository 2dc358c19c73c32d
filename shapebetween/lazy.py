"""Lazy scripts: what must be touched, moment by moment, so that wishes can be held."""

from shapebetween.errors import InvalidWord
from shapebetween.scripts import Script, check_unmarked
from shapebetween.weaktrees import WeakTree

BOTH = "both"
RISING = "rising"
FALLING = "falling"


def lazy_script(wishes, *, side=BOTH):
    """The lazy script of wishes, or the one that takes from one side alone what the wishes need."""
    check_unmarked(wishes)
    if not isinstance(side, str) or side not in (BOTH, RISING, FALLING):
        raise InvalidWord(side)
    lots = []
    for wish in wishes.rows():
        lots.append(lot_with_needs(touch_tree(wishes.living, lots), wish.lot, side))
    return Script(wishes.living, lots)


def holds(script, wishes):
    """Whether a script holds the wishes."""
    check_unmarked(wishes)
    if script.first_marked() is not None or script.living != wishes.living or len(script) != len(wishes):
        return False
    return all([key in row for row, wish in zip(script.rows(), wishes.rows()) for key in wish.lot])


def last_touches(script):
    """The weak tree of last touches."""
    check_unmarked(script)
    return touch_tree(script.living, [row.lot for row in script.rows()])


def leaning(script):
    """The pair of the numbers of rising and of falling crosswise tuples."""
    check_unmarked(script)
    rising = [k < x for _, _, k, x in script.all_crosswise()]
    return rising.count(True), rising.count(False)


def touch_tree(living, lots):
    """The weak tree in which keys are the higher, the later the last lot that has them stands."""
    lasts = {}
    for moment, lot in enumerate(lots):
        for key in lot:
            lasts[key] = 1 + moment
    return WeakTree(living, [lasts.get(key, 0) for key in living])


def lot_with_needs(tree, lot, side):
    """The lot with all keys on a side that its keys need."""
    found = {key: True for key in lot}
    for key in lot:
        for needed in tree.needs(key):
            if side == BOTH or (needed < key) == (side == RISING):
                found[needed] = True
    return tuple(sorted(list(found)))
