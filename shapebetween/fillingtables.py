"""The fillings that rows of signs leave: counted and numbered."""

from shapebetween.follow import tree_behind
from shapebetween.logwords import UNREAD, WORDS, YES
from shapebetween.rows import Row
from shapebetween.weaktrees import WeakTree, unmet_need


class FillingTable:
    """The fillings of a log: counted and numbered, moment by moment.

    At each moment stand the past trees of all fillings so far, each once. A step from one of them is a pair
    of a lot that the log allows and that can follow, and of the index of the past tree behind it.
    """

    def __init__(self, living, rows):
        self._steps = []
        trees = [WeakTree.level(living)]
        for row in rows:
            steps, trees = steps_from(trees, lots_of_signs(living, row))
            self._steps.append(steps)
        self._counts = counts_ahead(self._steps, len(trees))
        self.total = self._counts[0][0]

    def lots_at(self, number):
        """The list of the lots of the filling with a number from 0 to total - 1."""
        place = 0
        rest = number
        found = []
        for steps, counts in zip(self._steps, self._counts[1:]):
            at = 0
            while rest >= counts[steps[place][at][1]]:
                rest = rest - counts[steps[place][at][1]]
                at = at + 1
            lot, place = steps[place][at]
            found.append(lot)
        return found

    def touch_counts(self):
        """The dict from the cells that a filling touches to the numbers of fillings that touch them."""
        found = {}
        ahead = [1]
        for moment, steps in enumerate(self._steps):
            counts = self._counts[moment + 1]
            behind = [0] * len(counts)
            taken = [(ahead[place], lot, target) for place, ways in enumerate(steps) for lot, target in ways]
            for many, lot, target in taken:
                behind[target] = behind[target] + many
                for key in lot:
                    found[moment, key] = found.get((moment, key), 0) + many * counts[target]
            ahead = behind
        return found


def steps_from(trees, lots):
    """The pair of the list of the steps from each past tree by these lots, and of the list of the trees behind."""
    found = []
    behind = []
    places = {}
    for tree in trees:
        calm = [lot for lot in lots if unmet_need(tree, lot) is None]
        following = [tree_behind(tree, Row(lot)) for lot in calm]
        for other in following:
            if other.text() not in places:
                places[other.text()] = len(behind)
                behind.append(other)
        found.append([(lot, places[other.text()]) for lot, other in zip(calm, following)])
    return found, behind


def counts_ahead(steps, size):
    """For each moment and at the end, the list of the numbers of ways to go on from each past tree.

    size is the number of past trees at the end.
    """
    counts = [[1] * size]
    for steps_there in steps[::-1]:
        behind = counts[-1]
        counts.append([sum([behind[target] for _, target in ways]) for ways in steps_there])
    return counts[::-1]


def lots_of_signs(living, row):
    """The list of the lots that a row of signs allows; of the unread cells, not touched goes ahead of touched."""
    lots = [()]
    for key, sign in zip(living, row):
        lots = [lot + more for lot in lots for more in choices_of(key, WORDS[sign])]
    return [lot for lot in lots if lot]


def choices_of(key, word):
    """The list of what a cell with a word adds to a lot."""
    if word == UNREAD:
        return [(), (key,)]
    return [(key,)] if word == YES else [()]
