"""Rules of turning: which shape comes next for a shape, a row and the future tree behind the row."""

from shapebetween.lots import check_distinct_keys, check_same_keys, comma_words
from shapebetween.rows import as_row, living_behind
from shapebetween.shapes import Shape
from shapebetween.steps import check_top_part, step


class Keep:
    """The touched keys keep their order from above."""

    word = "keep"

    def ordered(self, shape, row, rest):
        """The keys of the lot after in the order in which the rule inserts them."""
        return kept_order(shape, checked_row(shape, row, rest))

    def favourites(self):
        """The list of the favourites; there are none."""
        return []

    def __call__(self, shape, row, rest):
        return turned(shape, row, self.ordered(shape, row, rest))

    def __repr__(self):
        return "Keep()"


class Halves(Keep):
    """The middle key comes first, and again on each of its sides."""

    word = "halves"

    def ordered(self, shape, row, rest):
        """The keys of the lot after in the order in which the rule inserts them."""
        return halved_order(checked_row(shape, row, rest).lot_after())

    def favourites(self):
        """The list of the favourites; there are none."""
        return []

    def __call__(self, shape, row, rest):
        return turned(shape, row, self.ordered(shape, row, rest))

    def __repr__(self):
        return "Halves()"


class Lift(Keep):
    """The first favourite that is touched comes first, and the others keep their order from above."""

    word = "lift"

    def __init__(self, *favourites):
        check_distinct_keys(favourites)
        self._liked = tuple(favourites)

    def ordered(self, shape, row, rest):
        """The keys of the lot after in the order in which the rule inserts them."""
        order = kept_order(shape, checked_row(shape, row, rest))
        lifted = [key for key in self._liked if key in order][:1]
        return lifted + [key for key in order if key not in lifted]

    def favourites(self):
        """The list of the favourites."""
        return list(self._liked)

    def __call__(self, shape, row, rest):
        return turned(shape, row, self.ordered(shape, row, rest))

    def __repr__(self):
        return f"Lift({comma_words(self._liked)})"


class Soonest(Keep):
    """The keys that the rest wants soonest come first."""

    word = "soonest"

    def ordered(self, shape, row, rest):
        """The keys of the lot after in the order in which the rule inserts them."""
        lot = checked_row(shape, row, rest).lot_after()
        pairs = [(level, key) for level, key in zip(rest.levels(), rest.living) if key in lot]
        return [key for _, key in sorted(pairs)]

    def favourites(self):
        """The list of the favourites; there are none."""
        return []

    def __call__(self, shape, row, rest):
        return turned(shape, row, self.ordered(shape, row, rest))

    def __repr__(self):
        return "Soonest()"


def checked_row(shape, row, rest):
    """The row as a Row, if the shape can take a step by it and the rest is on the keys behind it."""
    taken = as_row(row)
    behind = living_behind(shape.living, taken)
    check_top_part(shape, taken.lot_before())
    check_same_keys(rest.living, behind)
    return taken


def kept_order(shape, row):
    """The keys of the lot after in the order from above of the shape, the coming key last."""
    lot = row.lot_after()
    # A key that comes is not in the shape.
    return [key for key in shape.order() if key in lot] + [key for key in lot if key == row.coming]


def halved_order(lot):
    """The lower middle key of a lot first, then the keys below it and those above it, ordered alike."""
    if not lot:
        return []
    at = (len(lot) - 1) // 2
    return [lot[at]] + halved_order(lot[:at]) + halved_order(lot[at + 1:])


def turned(shape, row, order):
    """The shape behind a step by the row, if the keys of the lot after are inserted in this order."""
    return step(shape, row, Shape(*order))
