"""The shapes that resolve a weak tree: counted, ordered and numbered."""

from shapebetween.errors import Unresolved
from shapebetween.limits import check_end
from shapebetween.lots import check_same_keys
from shapebetween.shapenumbers import shape_count
from shapebetween.shapes import Shape
from shapebetween.toptables import TopTable, tops_by_levels


def resolves(tree, shape):
    """Whether the top of each stretch in the shape is among its tops in the tree."""
    if not isinstance(shape, Shape) or shape.living != tree.living:
        return False
    return unresolved_stretch(tree, shape) is None


def resolving_count(tree):
    """The number of the shapes that resolve a weak tree."""
    count = shape_count(len(tree.block))
    for gap in tree.gaps():
        count = count * resolving_count(gap)
    return count


def resolving_shapes(tree):
    """Generate the shapes that resolve a weak tree, in order."""
    table = resolving_table(tree)
    for number in range(table.total):
        order = table.order_at(number)
        yield Shape(*order)


def resolving_at(tree, number):
    """The shape with a number among those that resolve a weak tree."""
    check_end(number, resolving_count(tree))
    order = resolving_table(tree).order_at(number)
    return Shape(*order)


def resolving_number(tree, shape):
    """The number of a shape among those that resolve a weak tree."""
    check_same_keys(tree.living, shape.living)
    stretch = unresolved_stretch(tree, shape)
    if stretch is not None:
        first, last = stretch
        raise Unresolved(first, last)
    return resolving_table(tree).number_of_order(shape.order())


def unresolved_stretch(tree, shape):
    """The ends of the first stretch whose top is not among its tops in the tree, or None."""
    for at, first in enumerate(tree.living):
        for last in tree.living[at:]:
            if shape.top_of(first, last) not in tree.tops(first, last):
                return first, last
    return None


def resolving_table(tree):
    """The table of the shapes that resolve a weak tree."""
    return TopTable(tree.living, tops_by_levels(tree.levels()))
