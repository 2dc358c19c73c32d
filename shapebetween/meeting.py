"""When a past tree and a future tree meet, and the common shapes of both."""

from shapebetween.errors import Unresolved
from shapebetween.limits import check_end
from shapebetween.lots import check_same_keys
from shapebetween.shapes import Shape
from shapebetween.sharedtops import crossing_pairs, shared_table


class Meeting:
    """A past tree and a future tree on the same keys; it never changes."""

    def __init__(self, past, future):
        check_same_keys(past.living, future.living)
        pairs = crossing_pairs(past, future)
        self._table = shared_table(past, future)
        self.living = past.living
        self.past = past
        self.future = future
        self.meets = not pairs
        self.crossing = pairs[0] if pairs else None
        self.total = self._table.total

    def shared(self, one, other):
        """The keys that are tops of the stretch in both trees."""
        future_tops = self.future.tops(one, other)
        return tuple([key for key in self.past.tops(one, other) if key in future_tops])

    def all_crossing(self):
        """The list of the crossing pairs, in order."""
        return crossing_pairs(self.past, self.future)

    def common_shapes(self):
        """Generate the common shapes, in order."""
        for number in range(self.total):
            order = self._table.order_at(number)
            yield Shape(*order)

    def common_at(self, number):
        """The common shape with a number."""
        check_end(number, self.total)
        order = self._table.order_at(number)
        return Shape(*order)

    def number_of(self, shape):
        """The number of a common shape."""
        check_same_keys(self.living, shape.living)
        for at, first in enumerate(self.living):
            for last in self.living[at:]:
                if shape.top_of(first, last) not in self.shared(first, last):
                    raise Unresolved(first, last)
        return self._table.number_of_order(shape.order())

    def __len__(self):
        return len(self.living)

    def __bool__(self):
        return bool(self.meets)

    def __repr__(self):
        return f"Meeting({self.total} shapes)"
