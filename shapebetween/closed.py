"""Closed lots of a weak tree: told, completed, listed, counted and numbered."""

from shapebetween.errors import NotClosed
from shapebetween.limits import check_end
from shapebetween.lots import check_lot
from shapebetween.weaktrees import unmet_need


def is_closed(tree, lot):
    """Whether a lot holds all keys that its keys need."""
    return missing_need(tree, lot) is None


def missing_need(tree, lot):
    """The missing need of a lot, None if the lot is closed."""
    check_lot(tree.living, lot)
    return unmet_need(tree, lot)


def closed_around(tree, lot):
    """The least closed lot around a lot."""
    check_lot(tree.living, lot)
    # A key that is needed by a needed key is needed by the key itself, so one round is enough.
    wanted = list(lot)
    for key in lot:
        wanted = wanted + list(tree.needs(key))
    return tuple([key for key in tree.living if key in wanted])


def closed_count(tree):
    """The number of closed lots."""
    return sum(lot_sizes(tree))


def closed_lots(tree):
    """Generate the closed lots, in order."""
    lots = [lot for lot in closed_sets(tree) if lot]
    # Sorting keeps the order of lots of the same size.
    for lot in sorted(sorted(lots), key=len):
        yield lot


def closed_at(tree, number):
    """The closed lot with a number."""
    sizes = lot_sizes(tree)
    check_end(number, sum(sizes))
    rest = number
    size = 0
    while rest >= sizes[size]:
        rest = rest - sizes[size]
        size = size + 1
    told = {}
    for key in tree.living:
        holding = sized_count(tree, {**told, key: True}, size)
        told[key] = rest < holding
        if not told[key]:
            rest = rest - holding
    return tuple([key for key in tree.living if told[key]])


def closed_number(tree, lot):
    """The number of a closed lot."""
    missing = missing_need(tree, lot)
    if missing is not None:
        key, needed = missing
        raise NotClosed(key, needed)
    number = sum(lot_sizes(tree)[:len(lot)])
    told = {}
    for key in tree.living:
        if key not in lot:
            number = number + sized_count(tree, {**told, key: True}, len(lot))
        told[key] = key in lot
    return number


def lot_sizes(tree):
    """The list of the numbers of closed lots by their sizes, from size 0 on."""
    sizes = size_counts(tree, {})
    # The empty key set is closed, and it is no lot.
    return [0] + sizes[1:]


def sized_count(tree, told, size):
    """The number of closed key sets of a size that hold, or lack, each key as told."""
    sizes = size_counts(tree, told)
    return sizes[size] if size < len(sizes) else 0


def size_counts(tree, told):
    """The numbers of closed key sets by size; told says of some keys whether they are held."""
    if not tree.living:
        return [1]
    gaps = tree.gaps()
    # Joined sets hold the last key of the block so far, so the next gap is free if its next key is held too.
    joined = [1]
    parted = []
    for at, key in enumerate(tree.block):
        held = [0] + counts_with_gap(joined, parted, gaps[at], told)
        lacking = multiplied(added(joined, parted), counts_without(gaps[at], told))
        joined = held if told.get(key, True) else []
        parted = [] if told.get(key, False) else lacking
    return counts_with_gap(joined, parted, gaps[-1], told)


def counts_with_gap(joined, parted, gap, told):
    """The counts of joined sets with what the gap may hold and of parted sets, which leave it empty."""
    free = multiplied(joined, size_counts(gap, told))
    return added(free, multiplied(parted, counts_without(gap, told)))


def counts_without(gap, told):
    """The counts by size for a gap that holds no key: none at all if one of its keys is told to be held."""
    return [] if any([told.get(key, False) for key in gap.living]) else [1]


def added(one, other):
    """The sums of two lists of counts by size."""
    longer = max(len(one), len(other))
    return [sum(one[at:at + 1]) + sum(other[at:at + 1]) for at in range(longer)]


def multiplied(one, other):
    """The counts by size of sets that are put together from two parts."""
    found = [0] * (len(one) + len(other) - 1)
    for at, many in enumerate(one):
        for beside, ways in enumerate(other):
            found[at + beside] = found[at + beside] + many * ways
    return found


def closed_sets(tree):
    """The list of all closed key sets, the empty one included, in any order."""
    if not tree.living:
        return [()]
    gaps = tree.gaps()
    joined = [()]
    parted = []
    for at, key in enumerate(tree.block):
        inside = closed_sets(gaps[at])
        held = [ahead + within + (key,) for ahead in joined for within in inside]
        held = held + [ahead + (key,) for ahead in parted]
        parted = joined + parted
        joined = held
    inside = closed_sets(gaps[-1])
    return [ahead + within for ahead in joined for within in inside] + parted
