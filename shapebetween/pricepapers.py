"""Price papers: what shows that wishes cannot be held with so few added cells."""

from shapebetween.cells import is_cell, is_touched, with_cells
from shapebetween.errors import Affordable
from shapebetween.faultwords import BRANCH, CLASH, FORM, ROOT
from shapebetween.limits import is_number_tuple
from shapebetween.lots import is_ascending
from shapebetween.prices import cheapest_cells, check_price, clash_layers, open_cells


def price_paper(wishes, most):
    """The least price paper."""
    check_price(wishes, most)
    cells = cheapest_cells(wishes, most)
    if cells is not None:
        raise Affordable(cells)
    entries = []
    for layer in clash_layers(wishes, most):
        entries = entries + sorted(list(layer.items()))
    return tuple(entries)


def price_fault(wishes, most, paper):
    """The fault of any value as a price paper, None if it holds."""
    check_price(wishes, most)
    if not is_paper(wishes, most, paper):
        return FORM
    clashes = {cells: clash for cells, clash in paper}
    if () not in clashes:
        return ROOT
    for cells in clashes:
        if not with_cells(wishes, cells).is_crosswise(clashes[cells]):
            return CLASH
    return BRANCH if lacks_branch(wishes, most, clashes) else None


def is_paper(wishes, most, value):
    """Whether any value is a tuple of entries with different cells."""
    if not isinstance(value, tuple) or not all([is_entry(wishes, most, entry) for entry in value]):
        return False
    return len({entry[0]: True for entry in value}) == len(value)


def is_entry(wishes, most, value):
    """Whether any value is a pair of at most so many cells and of a tuple of four numbers."""
    if not isinstance(value, tuple) or len(value) != 2:
        return False
    cells, clash = value
    return is_added(wishes, cells) and len(cells) <= most and is_number_tuple(clash, 4)


def is_added(wishes, value):
    """Whether any value is an ascending tuple of cells that the wishes do not touch."""
    if not isinstance(value, tuple) or not all([is_cell(wishes.living, len(wishes), cell) for cell in value]):
        return False
    return is_ascending(value) and not any([is_touched(wishes, cell) for cell in value])


def lacks_branch(wishes, most, clashes):
    """Whether an entry with fewer cells than most lacks an entry with one more cell of the box of its clash."""
    for cells in clashes:
        if len(cells) < most:
            wanted = [tuple(sorted([*cells, cell])) for cell in open_cells(wishes, cells, clashes[cells])]
            if not all([longer in clashes for longer in wanted]):
                return True
    return False
