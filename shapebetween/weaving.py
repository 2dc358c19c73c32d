"""Woven scripts: all orders in which the rows of several scripts can be taken."""

from shapebetween.limits import check_end, check_limit
from shapebetween.lots import check_same_keys
from shapebetween.programs import Program
from shapebetween.scripts import Script, check_unmarked


def weaving_count(first, *others):
    """The number of the weavings of scripts."""
    scripts = [first, *others]
    check_woven(scripts)
    return order_count(sizes_of(scripts))


def weavings(first, *others):
    """Generate the weavings of scripts, in order."""
    scripts = [first, *others]
    check_woven(scripts)
    for number in range(order_count(sizes_of(scripts))):
        yield weaving_by(scripts, number)


def weaving_at(number, first, *others):
    """The weaving of scripts with an index."""
    scripts = [first, *others]
    check_woven(scripts)
    check_end(number, order_count(sizes_of(scripts)))
    return weaving_by(scripts, number)


def woven(first, *others):
    """The program whose walks take the rows of scripts in any order."""
    scripts = [first, *others]
    check_woven(scripts)
    sizes = sizes_of(scripts)
    check_limit("nodes", node_count(sizes))
    nodes = done_tuples(sizes)
    edges = []
    for done in nodes:
        for at, many in enumerate(done):
            if many < sizes[at]:
                target = done[:at] + (many + 1,) + done[at + 1:]
                edges.append((woven_name(done), woven_name(target), scripts[at][many].lot))
    return Program(first.living, [woven_name(done) for done in nodes], edges)


def check_woven(scripts):
    """Raise the first error that keeps scripts from being woven."""
    for script in scripts:
        check_unmarked(script)
    for script in scripts:
        check_same_keys(scripts[0].living, script.living)
    check_limit("scripts", len(scripts))
    check_limit("moments", sum(sizes_of(scripts)))


def sizes_of(scripts):
    """The list of the numbers of rows of scripts."""
    return [len(script) for script in scripts]


def order_count(sizes):
    """In how many orders lists of these sizes can be taken item by item."""
    count = 1
    total = 0
    for size in sizes:
        # Each step gives the number of ways to put one more item of this list among all so far.
        for more in range(1, size + 1):
            total = total + 1
            count = count * total // more
    return count


def weaving_by(scripts, number):
    """The weaving with an index that it has."""
    taken = [0] * len(scripts)
    lots = []
    for at in order_at(sizes_of(scripts), number):
        lots.append(scripts[at][taken[at]].lot)
        taken[at] = taken[at] + 1
    return Script(scripts[0].living, lots)


def order_at(sizes, number):
    """The list of the indexes of the lists from which the items are taken, in the order with a number."""
    left = list(sizes)
    found = []
    rest = number
    for _ in range(sum(sizes)):
        at = 0
        while rest >= count_with(left, at):
            rest = rest - count_with(left, at)
            at = at + 1
        left[at] = left[at] - 1
        found.append(at)
    return found


def count_with(left, at):
    """In how many orders the items that are left can be taken if the next one is from the list with an index."""
    if left[at] == 0:
        return 0
    return order_count(left[:at] + [left[at] - 1] + left[at + 1:])


def node_count(sizes):
    """The number of nodes of the woven program."""
    count = 1
    for size in sizes:
        count = count * (size + 1)
    return count


def done_tuples(sizes):
    """The ascending list of the tuples of numbers of rows done."""
    found = [()]
    for size in sizes:
        found = [done + (many,) for done in found for many in range(size + 1)]
    return found


def woven_name(done):
    """The name of the node of a tuple of numbers of rows done."""
    numbers = "x".join([str(many) for many in done])
    return f"p{numbers}"
