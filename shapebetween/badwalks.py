"""Safe programs, and the bad walk of a program that is not safe.

A walk is bad if one of its rows touches k and no other key up to x, no later row touches any key
from k to x, and then a row touches x and no other key up to k. So a walk is followed by states:
a node, and a pair (k, x) that waits there. The pair NOTHING waits at every node that a walk reaches.
"""

NOTHING = ()
BAD = ("", ())


def is_safe(program):
    """Whether the scripts of all walks are feasible."""
    return bad_walk(program) is None


def bad_walk(program):
    """The least of the shortest walks whose scripts are not feasible, None if there is none."""
    begin = (program.start, NOTHING)
    moves = moves_from(program, begin)
    far = distances(moves)
    if begin not in far:
        return None
    walk = []
    states = [begin]
    while BAD not in states:
        nearer = far[states[0]] - 1
        # All these states stand at the same node, so the least edge alone says which ones come next.
        useful = [move for state in states for move in moves[state] if far.get(move[1], -1) == nearer]
        least = min([index for index, _ in useful])
        states = [state for index, state in useful if index == least]
        walk.append(least)
    return walk


def bad_pair(program):
    """The first crosswise tuple of the script of the bad walk, None if the program is safe."""
    walk = bad_walk(program)
    return None if walk is None else program.script_of(walk).first_crosswise()


def moves_from(program, begin):
    """The dict from each state that walks reach to its moves, pairs of the index of an edge and the next state."""
    moves = {BAD: []}
    waiting = [begin]
    while waiting:
        state = waiting.pop()
        if state not in moves:
            moves[state] = moves_of(program, state)
            waiting.extend([following for _, following in moves[state]])
    return moves


def waiting_states(program):
    """The list of all states that walks reach, whether their scripts are feasible or not."""
    moves = moves_from(program, (program.start, NOTHING))
    return [state for state in moves if state != BAD]


def moves_of(program, state):
    """The moves of a state."""
    node, pair = state
    found = []
    edges = program.edges()
    for index in program.leaving(node):
        _, target, lot = edges[index]
        for following in pairs_behind(program.living, pair, lot):
            found.append((index, BAD if following is None else (target, following)))
    return found


def pairs_behind(living, pair, lot):
    """The pairs that wait behind a lot because of a pair ahead of it; None stands for a clash with that pair."""
    if pair == NOTHING:
        return [NOTHING] + begun_pairs(living, lot)
    touched = touched_between(lot, pair[0], pair[1])
    if not touched:
        return [pair]
    return [None] if touched == [pair[1]] else []


def touched_between(lot, k, x):
    """The list of the keys of the lot from k to x, in either order."""
    return [key for key in lot if min(k, x) <= key <= max(k, x)]


def begun_pairs(living, lot):
    """The pairs that begin to wait behind a lot."""
    return [(k, x) for k in lot for x in living if k != x and touched_between(lot, k, x) == [k]]


def distances(moves):
    """The dict from each state from which BAD can be reached to the least number of edges up to it."""
    sources = {}
    for state in moves:
        for _, following in moves[state]:
            sources.setdefault(following, []).append(state)
    far = {BAD: 0}
    layer = [BAD]
    while layer:
        ahead = []
        for state in layer:
            for source in sources.get(state, []):
                if source not in far:
                    far[source] = far[state] + 1
                    ahead.append(source)
        layer = ahead
    return far
