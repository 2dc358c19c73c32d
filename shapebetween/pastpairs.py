"""Pairs of a node of a program and a past tree, listed as they are found."""

from shapebetween.follow import past_behind_row
from shapebetween.weaktrees import WeakTree


class PastPairs:
    """The list of the pairs that were found, each once; it begins with the start and the level tree."""

    def __init__(self, program):
        self._pairs = []
        self._places = {}
        self.place_of(program.start, WeakTree.level(program.living))

    def place_of(self, node, tree):
        """The index of a pair, which is put behind the others if it is not in the list."""
        named = (node, tree.text())
        if named not in self._places:
            self._places[named] = len(self._pairs)
            self._pairs.append((node, tree))
        return self._places[named]

    def place_behind(self, edge, tree, lot):
        """The index of the pair to which an edge leads if it touches this lot, which can follow the past tree."""
        return self.place_of(edge[1], past_behind_row(tree, lot))

    def pair_at(self, at):
        """The pair with an index."""
        return self._pairs[at]

    def many(self):
        """The number of the pairs."""
        return len(self._pairs)

    def listed(self):
        """The list of the pairs."""
        return list(self._pairs)
