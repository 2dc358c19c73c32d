"""Gates: what shows that the scripts that hold wishes need many touches."""

from shapebetween.errors import InvalidWord
from shapebetween.faultwords import APART, FORM, GATE
from shapebetween.lazy import FALLING, RISING, lazy_script
from shapebetween.limits import is_number_tuple
from shapebetween.lots import lives_in, neighbours_of
from shapebetween.scripts import check_unmarked


def gates_of(wishes, *, side=RISING):
    """The list of the rising or the falling gates, in order."""
    check_unmarked(wishes)
    if not isinstance(side, str) or side not in (RISING, FALLING):
        raise InvalidWord(side)
    found = []
    for moment, row in enumerate(lazy_script(wishes, side=side).rows()):
        for at in range(len(row) - 1):
            if side == RISING:
                found.append(rising_gate(wishes, moment, row.lot[at], row.lot[at + 1]))
            else:
                found.append(falling_gate(wishes, moment, row.lot[at + 1], row.lot[at]))
    return found


def is_gate(wishes, gate):
    """Whether any value is a gate of the wishes."""
    check_unmarked(wishes)
    if not is_number_tuple(gate, 5):
        return False
    i, j, k, x, g = gate
    if not 0 <= i <= j < len(wishes) or k not in wishes[i] or x not in wishes[j]:
        return False
    return lives_in(wishes.living, g) and min(k, x) <= g < max(k, x)


def are_apart(wishes, one, other):
    """Whether two gates of the wishes are apart."""
    check_unmarked(wishes)
    if one[1] < other[0] or other[1] < one[0]:
        return True
    return not gap_within(wishes.living, one, other) or not gap_within(wishes.living, other, one)


def lower_bound(wishes):
    """How many touches each feasible script that holds the wishes has at least, as far as gates tell."""
    rising = gates_of(wishes, side=RISING)
    falling = gates_of(wishes, side=FALLING)
    return len(wishes) + max(len(rising), len(falling))


def gates_fault(wishes, gates):
    """The fault of any value as gates of the wishes that are pairwise apart, None if they are."""
    if wishes.first_marked() is not None or not isinstance(gates, tuple):
        return FORM
    if not all([is_number_tuple(gate, 5) for gate in gates]):
        return FORM
    if not all([is_gate(wishes, gate) for gate in gates]):
        return GATE
    pairs = [(one, other) for at, one in enumerate(gates) for other in gates[:at]]
    return None if all([are_apart(wishes, one, other) for one, other in pairs]) else APART


def rising_gate(wishes, moment, k, following):
    """The rising gate of a moment and a key; following is the key that the rising lazy script touches next above."""
    x = [key for key in wishes[moment].lot if key > k][0]
    return last_wished(wishes, moment, k), moment, k, x, neighbours_of(wishes.living, following)[0]


def falling_gate(wishes, moment, k, following):
    """The falling gate of a moment and a key; following is the key that the falling lazy script touches next below."""
    x = [key for key in wishes[moment].lot if key < k][-1]
    return last_wished(wishes, moment, k), moment, k, x, following


def last_wished(wishes, moment, key):
    """The last moment up to this one whose wish has the key."""
    return [at for at in range(moment + 1) if key in wishes[at]][-1]


def gap_within(living, one, other):
    """Whether the gap of the first gate lies within the range of keys of the other one."""
    k, x = other[2:4]
    above = neighbours_of(living, one[4])[1]
    return min(k, x) <= one[4] and above <= max(k, x)
