"""Views of scripts: read from other sides, cut, merged and put together."""

from shapebetween.errors import InvalidWall, PastEnd, UnknownKey, Untouched
from shapebetween.limits import check_end
from shapebetween.lots import GREATEST_KEY, check_lives, is_key, stretch_between
from shapebetween.rows import Row
from shapebetween.scripts import Script, check_unmarked


def backward(script):
    """The script read backward."""
    return Script(script.end, [row.backward() for row in script.rows()[::-1]])


def mirrored(script):
    """The script with 999 minus the key in the place of each key."""
    return Script(mirrored_keys(script.living), [mirrored_row(row) for row in script.rows()])


def cut_moments(script, start, stop):
    """The rows from one moment on, ahead of another one."""
    count = len(script) + 1
    check_end(start, count)
    check_end(stop, count)
    if stop < start:
        raise PastEnd(stop, count)
    return Script(script.living_at(start), script.rows()[start:stop])


def cut_keys(script, one, other):
    """The script cut to the stretch between two keys."""
    check_unmarked(script)
    stretch = stretch_between(script.living, one, other)
    lots = [tuple([key for key in stretch if key in row]) for row in script.rows()]
    return Script(stretch, [lot for lot in lots if lot])


def exchanged(script):
    """The script in which keys and moments change places."""
    check_unmarked(script)
    lots = []
    for key in script.living:
        lots.append(tuple([moment for moment, row in enumerate(script.rows()) if key in row]))
        if not lots[-1]:
            raise Untouched(key)
    return Script(tuple(range(len(script))), lots)


def keys_merged(script, key):
    """The script in which a living key and the next greater one are one key."""
    check_unmarked(script)
    check_lives(script.living, key)
    if key == script.living[-1]:
        raise UnknownKey(key)
    merged = script.living[script.living.index(key) + 1]
    lots = []
    for row in script.rows():
        lots.append(tuple(sorted(set([key if touched == merged else touched for touched in row]))))
    return Script(tuple([other for other in script.living if other != merged]), lots)


def moments_merged(script, moment):
    """The script in which a row and the next one are one row."""
    check_unmarked(script)
    check_end(moment, max(0, len(script) - 1))
    rows = script.rows()
    both = tuple(sorted(set(rows[moment].lot) | set(rows[moment + 1].lot)))
    return Script(script.living, [*rows[:moment], both, *rows[moment + 2:]])


def walled(one, other, wall):
    """The script of two scripts beside each other, with a key between them that each row touches."""
    check_unmarked(one)
    check_unmarked(other)
    if not stands_between(one.living, other.living, wall):
        raise InvalidWall(wall)
    lots = []
    for moment in range(max(len(one), len(other))):
        lots.append((*lot_there(one, moment), wall, *lot_there(other, moment)))
    return Script((*one.living, wall, *other.living), lots)


def mirrored_keys(keys_there):
    """The keys of a key set, each replaced by 999 minus the key."""
    return tuple([GREATEST_KEY - key for key in keys_there[::-1]])


def mirrored_row(row):
    """The row with 999 minus the key in the place of each key."""
    return Row(mirrored_keys(row.lot), coming=mirrored_mark(row.coming), going=mirrored_mark(row.going))


def mirrored_mark(key):
    """999 minus a coming or going key, None if there is none."""
    return None if key is None else GREATEST_KEY - key


def stands_between(lesser, greater, value):
    """Whether any value is a key greater than all keys of one key set and less than all of another one."""
    if not is_key(value):
        return False
    return all([key < value for key in lesser]) and all([value < key for key in greater])


def lot_there(script, moment):
    """The lot of a moment, empty if the script has no such row."""
    return script[moment].lot if moment < len(script) else ()
