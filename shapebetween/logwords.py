"""The words of the cells of torn logs, the signs that write them, and the fillings that rows of signs leave."""

from shapebetween.follow import tree_behind
from shapebetween.rows import Row
from shapebetween.weaktrees import WeakTree, unmet_need

YES = "yes"
NO = "no"
UNREAD = "unread"
SIGNS = {"yes": "#", "no": ".", "unread": "?"}
WORDS = {"#": "yes", ".": "no", "?": "unread"}


class FillingTable:
    """The fillings of a log: counted and numbered, moment by moment."""

    def __init__(self, living, rows):
        self._living = living
        self._lots = [lots_of_signs(living, row) for row in rows]
        self._counts = {}
        self.total = self._many(0, WeakTree.level(living))

    def lots_at(self, number):
        """The list of the lots of the filling with a number from 0 to total - 1."""
        tree = WeakTree.level(self._living)
        rest = number
        found = []
        for moment in range(len(self._lots)):
            ways = self._ways(moment, tree)
            at = 0
            while rest >= self._many(moment + 1, ways[at][1]):
                rest = rest - self._many(moment + 1, ways[at][1])
                at = at + 1
            lot, tree = ways[at]
            found.append(lot)
        return found

    def _many(self, moment, tree):
        """The number of ways to go on from a moment behind a past tree."""
        if moment == len(self._lots):
            return 1
        named = (moment, tree.text())
        if named not in self._counts:
            self._counts[named] = sum([self._many(moment + 1, behind) for _, behind in self._ways(moment, tree)])
        return self._counts[named]

    def _ways(self, moment, tree):
        """The list of the pairs of a lot that the log allows and that can follow, and the past tree behind it."""
        lots = [lot for lot in self._lots[moment] if unmet_need(tree, lot) is None]
        return [(lot, tree_behind(tree, Row(lot))) for lot in lots]


def is_word(value):
    """Whether any value is the word of a cell."""
    return isinstance(value, str) and value in SIGNS


def words_of(living, rows):
    """The dict from the cells, ascending, to their words."""
    words = {}
    for moment, row in enumerate(rows):
        for key, sign in zip(living, row):
            words[moment, key] = WORDS[sign]
    return words


def rows_with(living, rows, cell, word):
    """The tuple of the rows of signs in which a cell has a word."""
    moment, key = cell
    at = living.index(key)
    changed = rows[moment][:at] + SIGNS[word] + rows[moment][at + 1:]
    return (*rows[:moment], changed, *rows[moment + 1:])


def lots_of_signs(living, row):
    """The list of the lots that a row of signs allows; of the unread cells, not touched goes ahead of touched."""
    lots = [()]
    for key, sign in zip(living, row):
        lots = [lot + more for lot in lots for more in choices_of(key, WORDS[sign])]
    return [lot for lot in lots if lot]


def choices_of(key, word):
    """The list of what a cell with a word adds to a lot."""
    if word == UNREAD:
        return [(), (key,)]
    return [(key,)] if word == YES else [()]
