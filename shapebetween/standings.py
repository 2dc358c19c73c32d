"""Standings: where the walks of a program with feasible scripts end, and with which past trees."""

from shapebetween.closed import is_closed
from shapebetween.limits import check_limit
from shapebetween.pastpairs import PastPairs


def standings(program):
    """The list of the pairs of a node and a past tree, in the order in which they are found."""
    edges = program.edges()
    found = PastPairs(program)
    at = 0
    while at < found.many():
        node, tree = found.pair_at(at)
        for index in program.leaving(node):
            lot = edges[index][2]
            if is_closed(tree, lot):
                found.place_behind(edges[index], tree, lot)
                check_limit("standings", found.many())
        at = at + 1
    return found.listed()
