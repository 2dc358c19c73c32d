"""Crosswise moments: two keys of which the earlier row wants one on top, and the later row the other."""


def crosswise_tuples(lived, rows):
    """The list of the crosswise tuples, in order; lived has the key sets that live ahead of the rows."""
    found = []
    lasts = {}
    for moment, row in enumerate(rows):
        found = found + crosswise_at(lived[moment], row, moment, lasts)
        for key in row.lot:
            lasts[key] = moment
    return found


def crosswise_at(living, row, moment, lasts):
    """The crosswise tuples whose later moment is this one; lasts has the last touches of all earlier rows."""
    # Keys that are gone count as touched, so they are walked over like the living ones.
    known = sorted(set(living) | set(list(lasts)))
    found = []
    for x in row.lot_before():
        at = known.index(x)
        for side in (known[:at][::-1], known[at + 1:]):
            for k in sole_last_keys(side, x, row, lasts):
                if k in living:
                    found.append((lasts[k], moment, k, x))
    return sorted(found)


def sole_last_keys(side, x, row, lasts):
    """The keys, on the way from x, up to which they alone were touched last and the row touches x alone."""
    found = []
    latest = lasts.get(x, -1)
    for k in side:
        if k in row.lot:
            return found
        touched = lasts.get(k, -1)
        if touched > latest:
            found.append(k)
            latest = touched
    return found
