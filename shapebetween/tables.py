"""Tables: which nodes the walks of a program reach, and for what they wait."""

from shapebetween.badwalks import NOTHING, bad_walk, begun_pairs, touched_between, waiting_states
from shapebetween.errors import Unsafe
from shapebetween.faultwords import BEGIN, CLASH, EDGE, FORM, START, STAY
from shapebetween.lots import is_ascending, is_name, lives_in


def least_table(program):
    """The table with exactly the nodes that walks reach, and exactly those that wait."""
    walk = bad_walk(program)
    if walk is not None:
        raise Unsafe(tuple(walk))
    reached = sorted([node for node, pair in waiting_states(program) if pair == NOTHING])
    return tuple(reached), tuple(waiting(program))


def waiting(program):
    """The ascending list of the triples (k, x, node) of the nodes that wait."""
    return sorted([(*pair, node) for node, pair in waiting_states(program) if pair != NOTHING])


def table_fault(program, table):
    """The fault of any value as a table of the program, None if it holds."""
    if not is_table(program, table):
        return FORM
    reached, waits = table
    if program.start not in reached:
        return START
    leaving = [edge for edge in program.edges() if edge[0] in reached]
    if any([edge[1] not in reached for edge in leaving]):
        return EDGE
    if lacks_begun(program.living, leaving, waits):
        return BEGIN
    if lacks_staying(program, waits):
        return STAY
    return CLASH if has_clash(program, waits) else None


def is_table(program, value):
    """Whether any value is a pair of an ascending tuple of nodes and one of triples that can wait."""
    if not isinstance(value, tuple) or len(value) != 2:
        return False
    reached, waits = value
    if not isinstance(reached, tuple) or not isinstance(waits, tuple):
        return False
    if not all([is_node(program, node) for node in reached]):
        return False
    if not all([is_triple(program, triple) for triple in waits]):
        return False
    return is_ascending(reached) and is_ascending(waits)


def is_node(program, value):
    """Whether any value is a node of the program."""
    return is_name(value) and value in program.nodes()


def is_triple(program, value):
    """Whether any value is a tuple of two different living keys and a node."""
    if not isinstance(value, tuple) or len(value) != 3:
        return False
    k, x, node = value
    return lives_in(program.living, k) and lives_in(program.living, x) and k != x and is_node(program, node)


def lacks_begun(living, leaving, waits):
    """Whether behind one of these edges a pair begins to wait that is not in waits."""
    known = {triple: True for triple in waits}
    for _, target, lot in leaving:
        if any([(k, x, target) not in known for k, x in begun_pairs(living, lot)]):
            return True
    return False


def lacks_staying(program, waits):
    """Whether behind an edge a pair of waits goes on waiting and is not in waits there."""
    known = {triple: True for triple in waits}
    for k, x, target, lot in waits_with_edges(program, waits):
        if not touched_between(lot, k, x) and (k, x, target) not in known:
            return True
    return False


def has_clash(program, waits):
    """Whether an edge touches x alone, up to k, where (k, x) waits."""
    return any([touched_between(lot, k, x) == [x] for k, x, _, lot in waits_with_edges(program, waits)])


def waits_with_edges(program, waits):
    """The list of the tuples (k, x, target, lot) of each triple of waits and each edge that leaves its node."""
    edges = program.edges()
    return [(k, x, target, lot) for k, x, node in waits for source, target, lot in edges if source == node]
