"""What a past tree and a future tree on the same keys both allow on each part of the keys."""

from shapebetween.toptables import TopTable, tops_by_levels


def shared_tops(past, future):
    """For each part of the keys, told by two indexes, the indexes of its shared tops."""
    mine = tops_by_levels(past.levels())
    others = tops_by_levels(future.levels())
    return {part: [at for at in mine[part] if at in others[part]] for part in mine}


def shared_table(past, future):
    """The table of the common shapes."""
    return TopTable(past.living, shared_tops(past, future))


def trees_meet(past, future):
    """Whether each stretch has a shared top."""
    shared = shared_tops(past, future)
    return all([len(shared[part]) > 0 for part in shared])


def crossing_pairs(past, future):
    """The list of the crossing pairs, in order."""
    found = []
    for k in past.living:
        for x in past.living:
            if k != x and past.tops(k, x) == (k,) and future.tops(k, x) == (x,):
                found.append((k, x))
    return found
