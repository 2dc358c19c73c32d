"""The order, the numbers and the counts of the weak trees on a key set."""

from shapebetween.limits import check_end
from shapebetween.lots import check_living
from shapebetween.shapenumbers import check_size
from shapebetween.weaktrees import WeakTree


def tree_count(size):
    """The number of weak trees on so many keys."""
    check_size(size)
    return block_ways(size)[size][0]


def tree_at(living, number):
    """The weak tree on a key set with a number."""
    check_living(living)
    ways = block_ways(len(living))
    check_end(number, ways[len(living)][0])
    return numbered_tree(ways, living, number)


def tree_number(tree):
    """The number of a weak tree among those on its keys."""
    return number_by_ways(block_ways(len(tree.living)), tree)


def all_trees(living):
    """Generate the weak trees on a key set, in order."""
    check_living(living)
    ways = block_ways(len(living))
    for number in range(ways[len(living)][0]):
        yield numbered_tree(ways, living, number)


def block_ways(size):
    """For up to so many keys and each number of block keys, in how many ways they make blocks and gaps.

    ways[many][block] counts the choices of so many block keys among many keys, with weak trees
    as the gaps between and beside them. Without block keys all keys make one gap, so
    ways[many][0] is the number of weak trees.
    """
    ways = [[1]]
    for many in range(1, size + 1):
        row = [0]
        for block in range(1, many + 1):
            begun = [ways[first][0] * ways[many - first - 1][block - 1] for first in range(many - block + 1)]
            row.append(sum(begun))
        row[0] = sum(row)
        ways.append(row)
    return ways


def numbered_tree(ways, living, number):
    """The weak tree on a key set with a number that it has."""
    levels = numbered_levels(ways, len(living), number, 0)
    return WeakTree(living, [-level for level in levels])


def numbered_levels(ways, size, number, level):
    """The levels of so many keys in the tree with a number, if so many blocks enclose it."""
    if size == 0:
        return []
    rest = number
    block = 1
    while rest >= ways[size][block]:
        rest = rest - ways[size][block]
        block = block + 1
    gaps, rest = numbered_gaps(ways, size, block, rest)
    levels = []
    # The last gap changes first from one number to the next, as the last digit does.
    for gap in gaps[::-1]:
        rest, inside = divmod(rest, ways[gap][0])
        levels = [level] + numbered_levels(ways, gap, inside, level + 1) + levels
    # There is one gap more than there are keys of the block: no such key stands ahead of the first gap.
    return levels[1:]


def numbered_gaps(ways, size, block, number):
    """The pair of the sizes of the gaps and of the number that is left for what they hold.

    number counts from the first tree whose block has so many keys.
    """
    gaps = []
    rest = number
    scale = 1
    left = size
    for more in range(block - 1, -1, -1):
        gap = 0
        while rest >= scale * ways[gap][0] * ways[left - gap - 1][more]:
            rest = rest - scale * ways[gap][0] * ways[left - gap - 1][more]
            gap = gap + 1
        gaps.append(gap)
        scale = scale * ways[gap][0]
        left = left - gap - 1
    gaps.append(left)
    return gaps, rest


def number_by_ways(ways, tree):
    """The number of a weak tree on no more keys than ways goes up to."""
    size = len(tree.living)
    block = len(tree.block)
    gaps = tree.gaps()
    number = sum(ways[size][1:block]) + ways_ahead(ways, size, [len(gap.living) for gap in gaps])
    inside = 0
    for gap in gaps:
        inside = inside * ways[len(gap.living)][0] + number_by_ways(ways, gap)
    return number + inside


def ways_ahead(ways, size, gaps):
    """How many trees with as large a block have an earlier block than the one with gaps of these sizes."""
    number = 0
    scale = 1
    left = size
    for at, gap in enumerate(gaps[:-1]):
        more = len(gaps) - at - 2
        earlier = [ways[lesser][0] * ways[left - lesser - 1][more] for lesser in range(gap)]
        number = number + scale * sum(earlier)
        scale = scale * ways[gap][0]
        left = left - gap - 1
    return number
