"""Who is above whom, and how deep keys are, in the common shapes of a past and a future tree."""

from shapebetween.errors import InvalidWord, NotMeeting
from shapebetween.lots import check_lives
from shapebetween.sharedtops import shared_tops
from shapebetween.toptables import part_counts

SURELY = "surely"
POSSIBLY = "possibly"
NEVER = "never"


def above(meeting, upper, lower, *, how="surely"):
    """Whether upper is surely, possibly or never above lower."""
    check_lives(meeting.living, upper)
    check_lives(meeting.living, lower)
    if not isinstance(how, str) or how not in (SURELY, POSSIBLY, NEVER):
        raise InvalidWord(how)
    check_meets(meeting)
    shared = meeting.shared(upper, lower)
    if how == SURELY:
        return upper != lower and shared == (upper,)
    possible = upper != lower and upper in shared
    return possible if how == POSSIBLY else not possible


def depth_row(meeting, key):
    """The list that says, for each depth, in how many common shapes the key has it."""
    check_lives(meeting.living, key)
    check_meets(meeting)
    size = len(meeting.living)
    tops = shared_tops(meeting.past, meeting.future)
    return counts_by_depth(tops, part_counts(size, tops), size, meeting.living.index(key))


def least_depth(meeting, key):
    """The least depth that the key has in a common shape."""
    return depths_found(meeting, key)[0]


def greatest_depth(meeting, key):
    """The greatest depth that the key has in a common shape."""
    return depths_found(meeting, key)[-1]


def surely_pairs(meeting):
    """The ascending list of the pairs of an upper key that is surely above a lower one."""
    check_meets(meeting)
    living = meeting.living
    return [(upper, lower) for upper in living for lower in living if above(meeting, upper, lower)]


def check_meets(meeting):
    """Raise NotMeeting if the trees do not meet."""
    if meeting.crossing is not None:
        k, x = meeting.crossing
        raise NotMeeting(k, x)


def depths_found(meeting, key):
    """The ascending list of the depths that the key has in common shapes."""
    return [depth for depth, many in enumerate(depth_row(meeting, key)) if many > 0]


def counts_by_depth(tops, counts, size, at):
    """The depth row of the key with an index, from the tops of the parts and the counts of their shapes."""
    rows = {}
    for width in range(1, size + 1):
        for low in range(size - width + 1):
            if low <= at < low + width:
                rows[low, low + width] = part_depths(rows, tops, counts, low, low + width, at)
    return rows[0, size]


def part_depths(rows, tops, counts, low, high, at):
    """The depth row of a key within a part, from the depth rows of the lesser parts around the key."""
    found = [0] * (high - low)
    for top in tops[low, high]:
        if top == at:
            found[0] = found[0] + counts[low, top] * counts[top + 1, high]
        else:
            inner = rows[low, top] if at < top else rows[top + 1, high]
            beside = counts[top + 1, high] if at < top else counts[low, top]
            for depth, many in enumerate(inner):
                found[depth + 1] = found[depth + 1] + many * beside
    return found
