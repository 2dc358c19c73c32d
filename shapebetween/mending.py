"""Mended programs: each edge touches the least closed lot around its own one."""

from shapebetween.closed import closed_around
from shapebetween.limits import check_limit
from shapebetween.pastpairs import PastPairs
from shapebetween.programs import Program


def mended(program):
    """The pair of the mended program and of the list of the pairs of a node and a past tree of its nodes."""
    found = PastPairs(program)
    edges = []
    at = 0
    while at < found.many():
        for edge in edges_behind(program, found, at):
            if edge not in edges:
                edges.append(edge)
        at = at + 1
    names = [mended_name(place) for place in range(found.many())]
    return Program(program.living, names, edges), found.listed()


def edges_behind(program, found, at):
    """The list of the mended edges that leave the pair with an index; new pairs are put behind the others."""
    edges = program.edges()
    node, tree = found.pair_at(at)
    mended_edges = []
    for index in program.leaving(node):
        lot = closed_around(tree, edges[index][2])
        place = found.place_behind(edges[index], tree, lot)
        check_limit("nodes", found.many())
        mended_edges.append((mended_name(at), mended_name(place), lot))
    return mended_edges


def mended_name(at):
    """The name of the node with an index."""
    return f"m{at}"
