"""Shapes: binary search trees on a key set."""

from shapebetween.limits import check_limit
from shapebetween.lots import GREATEST_KEY, check_all_live, check_distinct_keys, check_lives, comma_words
from shapebetween.lots import is_key_set, lives_in
from shapebetween.treetexts import levels_text, read_levels


class Shape:
    """The shape that inserting keys one by one makes; it never changes."""

    def __init__(self, *order):
        check_distinct_keys(order)
        check_limit("keys", len(order))
        self._order = tuple(order_from_above(order))
        self.living = tuple(sorted(order))
        self.top = self._order[0] if self._order else None

    def order(self):
        """The list of the keys, the top first, then the left part, then the right part."""
        return list(self._order)

    def left(self):
        """The shape below the top on its left."""
        keys_there = [key for key in self._order if key < self.top]
        return Shape(*keys_there)

    def right(self):
        """The shape below the top on its right."""
        keys_there = [key for key in self._order if key > self.top]
        return Shape(*keys_there)

    def path(self, key):
        """The keys above a key from the top downward, and the key itself last."""
        check_lives(self.living, key)
        found = []
        low = -1
        high = GREATEST_KEY + 1
        for other in self._order:
            if low < other < high:
                found.append(other)
                if other <= key:
                    low = other
                if other >= key:
                    high = other
        return tuple(found)

    def depth(self, key):
        """The number of keys above a key."""
        return len(self.path(key)) - 1

    def parent(self, key):
        """The key directly above a key, None for the top."""
        path = self.path(key)
        return path[-2] if len(path) > 1 else None

    def is_above(self, upper, lower):
        """Whether upper is an ancestor of lower."""
        check_lives(self.living, upper)
        check_lives(self.living, lower)
        return upper != lower and upper in self.path(lower)

    def top_of(self, one, other):
        """The key of the stretch that is above all its others."""
        check_lives(self.living, one)
        check_lives(self.living, other)
        shared = self.path(other)
        return [key for key in self.path(one) if key in shared][-1]

    def cut(self, one, other):
        """The shape cut to the stretch."""
        check_lives(self.living, one)
        check_lives(self.living, other)
        least = min(one, other)
        greatest = max(one, other)
        kept_order = [key for key in self._order if least <= key <= greatest]
        return Shape(*kept_order)

    def is_top_part(self, part):
        """Whether a key set holds, with each key, all keys above it."""
        if not is_key_set(part) or not all([key in self.living for key in part]):
            return False
        return self.missed_top(part) is None

    def missed_top(self, part):
        """The least key of part that is not the top and whose parent is not in part."""
        check_all_live(self.living, part)
        for key in part:
            parent = self.parent(key)
            if parent is not None and parent not in part:
                return key
        return None

    def mirrored(self):
        """The shape with 999 minus the key in the place of each key."""
        turned = [GREATEST_KEY - key for key in self._order]
        return Shape(*turned)

    def text(self):
        """The items in ascending order, the parts in square brackets."""
        return levels_text(self.living, [self.depth(key) for key in self.living])

    @staticmethod
    def read(text):
        """The shape with this text."""
        found, levels = read_levels(text, True)
        # Each key comes behind all keys above it when the keys come by their levels.
        order = [pair[1] for pair in sorted(list(zip(levels, found)))]
        return Shape(*order)

    def __str__(self):
        return f"{self.text()}"

    def __repr__(self):
        return f"Shape({comma_words(self._order)})"

    def __contains__(self, key):
        return lives_in(self.living, key)

    def __len__(self):
        return len(self.living)

    def __eq__(self, other):
        return isinstance(other, Shape) and self._order == other._order


def order_from_above(order):
    """The order from above of the shape that inserting in this order makes."""
    if not order:
        return []
    top = order[0]
    lesser = order_from_above([key for key in order if key < top])
    greater = order_from_above([key for key in order if key > top])
    return [top, *lesser, *greater]
