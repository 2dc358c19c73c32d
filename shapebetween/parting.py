"""The lot that parts two past trees."""

from shapebetween.closed import closed_lots
from shapebetween.lots import check_same_keys


def parting_lot(one, other):
    """The first lot that is closed in exactly one of two weak trees, None if they are equal."""
    check_same_keys(one.living, other.living)
    lots_one = list(closed_lots(one))
    lots_other = list(closed_lots(other))
    odd = sorted(set(lots_one) ^ set(lots_other))
    # Of several least ones min takes the first, and they are ascending.
    return min(odd, key=len) if odd else None
