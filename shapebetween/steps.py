"""Steps from one shape to another one by a row."""

from shapebetween.errors import NotTop
from shapebetween.lots import check_same_keys
from shapebetween.rows import as_row, check_fits, living_behind, row_fits
from shapebetween.shapes import Shape


def step(shape, row, arranged):
    """The shape that a step by the row leads to, if the lot after takes the shape arranged."""
    taken = as_row(row)
    check_fits(shape.living, taken)
    check_top_part(shape, taken.lot_before())
    check_same_keys(arranged.living, taken.lot_after())
    untouched = [key for key in shape.order() if key not in taken.lot]
    # Inserted behind the touched keys, in their old order, the untouched pieces keep their shapes.
    order = arranged.order() + untouched
    return Shape(*order)


def is_step(earlier, row, later):
    """Whether a step by the row leads from the earlier shape to the later one."""
    taken = as_row(row)
    if not row_fits(earlier.living, taken):
        return False
    if not isinstance(later, Shape) or later.living != living_behind(earlier.living, taken):
        return False
    if not earlier.is_top_part(taken.lot_before()) or not later.is_top_part(taken.lot_after()):
        return False
    return step(earlier, taken, arranged_by(later, taken)) == later


def arranged_by(later, row):
    """The shape that the lot after has in a shape behind a step by the row."""
    lot = as_row(row).lot_after()
    check_top_part(later, lot)
    order = [key for key in later.order() if key in lot]
    return Shape(*order)


def check_top_part(shape, part):
    """Raise UnknownKey for keys that are not in the shape, NotTop for keys that are no top part."""
    missed = shape.missed_top(part)
    if missed is not None:
        raise NotTop(missed)
