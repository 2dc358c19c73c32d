"""Shapes whose parts have their tops among given keys: counted, ordered and numbered."""


def tops_by_levels(levels):
    """For each part of the keys, told by two indexes, the indexes of its keys of the least level.

    A part (low, high) has the keys from index low on, ahead of index high.
    """
    table = {}
    for low in range(len(levels)):
        for high in range(low + 1, len(levels) + 1):
            least = min(levels[low:high])
            table[low, high] = [at for at in range(low, high) if levels[at] == least]
    return table


class TopTable:
    """The shapes on a key set in which each part has one of its allowed tops.

    tops is a dict from the parts to the ascending lists of the indexes of their allowed tops.
    """

    def __init__(self, living, tops):
        self._living = living
        self._tops = tops
        self._counts = part_counts(len(living), tops)
        self.total = self._counts[0, len(living)]

    def order_at(self, number):
        """The order from above of the shape with a number from 0 to total - 1."""
        return self._part_at(0, len(self._living), number)

    def number_of_order(self, order):
        """The number of one of these shapes, told by its order from above."""
        return self._part_number(0, len(self._living), order)

    def _many(self, low, top, high):
        return self._counts[low, top] * self._counts[top + 1, high]

    def _part_at(self, low, high, number):
        if low == high:
            return []
        rest = number
        for top in self._tops[low, high]:
            many = self._many(low, top, high)
            if rest < many:
                left, right = divmod(rest, self._counts[top + 1, high])
                return [self._living[top]] + self._part_at(low, top, left) + self._part_at(top + 1, high, right)
            rest = rest - many
        return []

    def _part_number(self, low, high, order):
        if low == high:
            return 0
        top = self._living.index(order[0])
        ahead = sum([self._many(low, other, high) for other in self._tops[low, high] if other < top])
        left = self._part_number(low, top, [key for key in order if key < order[0]])
        right = self._part_number(top + 1, high, [key for key in order if key > order[0]])
        return ahead + left * self._counts[top + 1, high] + right


def part_counts(size, tops):
    """The dict from each part of so many keys to the number of shapes that it can take."""
    counts = {(at, at): 1 for at in range(size + 1)}
    for width in range(1, size + 1):
        for low in range(size - width + 1):
            high = low + width
            ways = [counts[low, top] * counts[top + 1, high] for top in tops[low, high]]
            counts[low, high] = sum(ways)
    return counts
