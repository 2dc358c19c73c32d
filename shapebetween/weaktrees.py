"""Weak trees: what rows of numbers say about the tops of stretches."""

from shapebetween.errors import InvalidNumbers, NotClosed
from shapebetween.limits import is_number
from shapebetween.lots import GREATEST_KEY, check_all_live, check_key_set, check_lives, check_living
from shapebetween.treetexts import levels_text, read_levels


class WeakTree:
    """The weak tree of one number for each key of a key set; it never changes."""

    def __init__(self, living, numbers):
        check_living(living)
        check_numbers(numbers, len(living))
        # Two rows of numbers have the same levels if and only if they give the same tree.
        self._levels = tuple(levels_of(list(numbers), 0))
        self.living = living
        self.block = tuple([key for at, key in enumerate(living) if self._levels[at] == 0])

    def gaps(self):
        """The list of the gaps, from left to right."""
        if not self.living:
            return []
        ends = [at for at, level in enumerate(self._levels) if level == 0] + [len(self.living)]
        begins = [0] + [at + 1 for at in ends]
        return [self._part(begins[at], end) for at, end in enumerate(ends)]

    def levels(self):
        """The list of the levels of the keys, ascending by keys."""
        return list(self._levels)

    def tops(self, one, other):
        """The keys of the stretch that have its greatest number."""
        low, high = self._ends(one, other)
        least = min(self._levels[low:high])
        return tuple([self.living[at] for at in range(low, high) if self._levels[at] == least])

    def needs(self, key):
        """The keys that a key needs."""
        check_lives(self.living, key)
        at = self.living.index(key)
        pairs = list(zip(self._levels, self.living))
        lesser = first_of_lower_levels(pairs[:at][::-1], self._levels[at])
        greater = first_of_lower_levels(pairs[at + 1:], self._levels[at])
        return tuple(lesser[::-1] + greater)

    def cut(self, one, other):
        """The weak tree cut to the stretch."""
        low, high = self._ends(one, other)
        return self._part(low, high)

    def kept(self, lot):
        """The weak tree cut to a closed key set."""
        check_key_set(lot)
        check_all_live(self.living, lot)
        missing = unmet_need(self, lot)
        if missing is not None:
            key, needed = missing
            raise NotClosed(key, needed)
        return WeakTree(lot, [-self._levels[self.living.index(key)] for key in lot])

    @staticmethod
    def level(living):
        """The level tree: all keys in one block."""
        check_living(living)
        return WeakTree(living, [0] * len(living))

    @staticmethod
    def of_shape(shape):
        """The weak tree with the same text as the shape."""
        return WeakTree(shape.living, [-shape.depth(key) for key in shape.living])

    @staticmethod
    def read(text):
        """The weak tree with this text."""
        living, levels = read_levels(text, False)
        return WeakTree(living, [-level for level in levels])

    def text(self):
        """The items in ascending order, the gaps in square brackets."""
        return levels_text(self.living, self._levels)

    def mirrored(self):
        """The weak tree with 999 minus the key in the place of each key."""
        turned = tuple([GREATEST_KEY - key for key in self.living[::-1]])
        return WeakTree(turned, [-level for level in self._levels[::-1]])

    def _ends(self, one, other):
        check_lives(self.living, one)
        check_lives(self.living, other)
        return self.living.index(min(one, other)), self.living.index(max(one, other)) + 1

    def _part(self, low, high):
        return WeakTree(self.living[low:high], [-level for level in self._levels[low:high]])

    def __str__(self):
        return f"{self.text()}"

    def __repr__(self):
        return f"WeakTree({self.text()})"

    def __len__(self):
        return len(self.living)

    def __eq__(self, other):
        return isinstance(other, WeakTree) and self.living == other.living and self._levels == other._levels


def check_numbers(numbers, size):
    """Raise InvalidNumbers for any value that is no list of so many numbers."""
    if not isinstance(numbers, (list, tuple)) or len(numbers) != size:
        raise InvalidNumbers(-1)
    for at, number in enumerate(numbers):
        if not is_number(number):
            raise InvalidNumbers(at)


def levels_of(numbers, level):
    """The levels of keys with these numbers in a tree that this many blocks enclose."""
    if not numbers:
        return []
    greatest = max(numbers)
    found = []
    gap = []
    for number in numbers:
        if number == greatest:
            found = found + levels_of(gap, level + 1) + [level]
            gap = []
        else:
            gap.append(number)
    return found + levels_of(gap, level + 1)


def first_of_lower_levels(pairs, level):
    """The keys, on the way through pairs of levels and keys, below all levels before and the given one."""
    found = []
    least = level
    for lower, key in pairs:
        if lower < least:
            found.append(key)
            least = lower
    return found


def unmet_need(tree, lot):
    """The missing need of a key set of living keys, None if it is closed."""
    for key in lot:
        outside = [other for other in tree.needs(key) if other not in lot]
        if outside:
            return key, nearest_key(tree.living, key, outside)
    return None


def nearest_key(living, key, others):
    """The one of the others with the fewest keys between it and key, the lesser one of two."""
    at = living.index(key)
    nearest = others[0]
    for other in others:
        if abs(living.index(other) - at) < abs(living.index(nearest) - at):
            nearest = other
    return nearest
