"""The order, the numbers and the counts of the shapes on a key set."""

from shapebetween.errors import InvalidNumber
from shapebetween.limits import check_end, check_limit, is_number
from shapebetween.lots import check_living
from shapebetween.shapes import Shape
from shapebetween.toptables import TopTable, tops_by_levels


def shape_count(size):
    """The number of shapes on so many keys."""
    check_size(size)
    return free_table(tuple(range(size))).total


def shape_at(living, number):
    """The shape on a key set with a number."""
    check_living(living)
    table = free_table(living)
    check_end(number, table.total)
    order = table.order_at(number)
    return Shape(*order)


def shape_number(shape):
    """The number of a shape among those on its keys."""
    return free_table(shape.living).number_of_order(shape.order())


def all_shapes(living):
    """Generate the shapes on a key set, in order."""
    check_living(living)
    table = free_table(living)
    for number in range(table.total):
        order = table.order_at(number)
        yield Shape(*order)


def check_size(size):
    """Raise InvalidNumber or TooMany for any value that is no number of living keys."""
    if not is_number(size) or size < 0:
        raise InvalidNumber(size)
    check_limit("keys", size)


def free_table(living):
    """The table of all shapes on a key set: each key may be the top of each part."""
    return TopTable(living, tops_by_levels([0] * len(living)))
