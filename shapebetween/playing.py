"""Scripts that are played by a rule of turning."""

from shapebetween.errors import Infeasible, OtherKeys, Stuck
from shapebetween.follow import future_ahead_of_row
from shapebetween.lots import check_same_keys
from shapebetween.weaktrees import WeakTree


def play(script, shape, rule):
    """The list of the shapes that follow each other by the rule, from a shape at the begin on."""
    clash = script.first_crosswise()
    if clash is not None:
        i, j, k, x = clash
        raise Infeasible(i, j, k, x)
    check_same_keys(shape.living, script.living)
    rests = rests_behind(script)
    shapes = [shape]
    for moment, row in enumerate(script.rows()):
        missed = shapes[-1].missed_top(row.lot_before())
        if missed is not None:
            raise Stuck(moment, missed)
        shapes.append(rule(shapes[-1], row, rests[moment]))
    return shapes


def plays(script, shape, rule):
    """Whether the script can be played by the rule from the shape."""
    try:
        play(script, shape, rule)
    except (Infeasible, OtherKeys, Stuck):
        return False
    return True


def rests_behind(script):
    """For each moment of a feasible script, the future tree of all rows behind it."""
    trees = [WeakTree.level(script.end)]
    for row in script.rows()[::-1]:
        trees.append(future_ahead_of_row(row, trees[-1]))
    # The last one is the future tree of the whole script, which is behind no row.
    return trees[:-1][::-1]
