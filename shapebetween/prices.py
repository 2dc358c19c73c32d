"""Prices: how many touches must be added to wishes to get a feasible script."""

from shapebetween.cells import box_of, is_touched, with_cells
from shapebetween.errors import InvalidNumber
from shapebetween.limits import check_limit, is_number
from shapebetween.scripts import check_unmarked


def price(wishes, *, most=5):
    """The least number of cells that must be added, None if it is greater than most."""
    check_price(wishes, most)
    cells = cheapest_cells(wishes, most)
    return None if cells is None else len(cells)


def cheapest(wishes, *, most=5):
    """The feasible script that adds the least number of cells, and of these tuples of cells the least one."""
    check_price(wishes, most)
    cells = cheapest_cells(wishes, most)
    return None if cells is None else with_cells(wishes, cells)


def box_cells(wishes, clash):
    """The ascending list of the cells of the box of a tuple that the wishes do not touch."""
    check_unmarked(wishes)
    return [cell for cell in box_of(wishes.living, clash) if not is_touched(wishes, cell)]


def check_price(wishes, most):
    """Raise the first error that keeps the price of wishes from being asked."""
    check_unmarked(wishes)
    check_limit("price keys", len(wishes.living))
    check_limit("price rows", len(wishes))
    if not is_number(most) or most < 0:
        raise InvalidNumber(most)
    check_limit("more", most)


def cheapest_cells(wishes, most):
    """The ascending tuple of the cells that the cheapest script adds, None if there are more than most."""
    layer = clash_layers(wishes, most)[-1]
    calm = [cells for cells in layer if layer[cells] is None]
    return min(calm) if calm else None


def clash_layers(wishes, most):
    """For each number of added cells up to most, the dict from tuples of cells to their first crosswise tuples.

    Each tuple but the empty one has a cell more than one of the dict before, from the box of its clash.
    So each least set of cells that makes the wishes feasible is found. The dict with these is the last one.
    """
    layers = [clashes_of(wishes, [()])]
    while len(layers) <= most and None not in list(layers[-1].values()):
        longer = {}
        for cells, clash in layers[-1].items():
            for cell in open_cells(wishes, cells, clash):
                longer[tuple(sorted([*cells, cell]))] = True
        layers.append(clashes_of(wishes, list(longer)))
    return layers


def clashes_of(wishes, added):
    """The dict from tuples of cells to the first crosswise tuples of the scripts that add them, or None."""
    return {cells: with_cells(wishes, cells).first_crosswise() for cells in added}


def open_cells(wishes, cells, clash):
    """The list of the cells of the box of a clash that are neither touched by the wishes nor among the cells."""
    return [cell for cell in box_cells(wishes, clash) if cell not in cells]
