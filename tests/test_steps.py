"""Promise [9] and the heading steps.py."""

from shapebetween.errors import (AlreadyLiving, InvalidRow, NeighbourMissed, NotTop, OtherKeys, TooMany, UnknownKey)
from shapebetween.rows import Row, living_behind, row_fits
from shapebetween.shapes import Shape
from shapebetween.steps import arranged_by, is_step, step
from tests.plain import (PlainCase, any_values, keys_of, lots_of, order_of, path_of, plain_tree, plain_trees, rows_near,
                         shape_of, shapes_on)


def pieces_below(tree, part):
    """The untouched pieces of a plain tree whose top part is taken away."""
    if tree is None:
        return []
    if tree[0] not in part:
        return [tree]
    return pieces_below(tree[1], part) + pieces_below(tree[2], part)


def hung(tree, pieces, low, high):
    """A plain tree with each piece hung at the one free place where its keys belong."""
    if tree is None:
        there = [piece for piece in pieces if low < min(keys_of(piece)) and max(keys_of(piece)) < high]
        assert len(there) <= 1
        return there[0] if there else None
    return (tree[0], hung(tree[1], pieces, low, tree[0]), hung(tree[2], pieces, tree[0], high))


def is_plain_top_part(tree, part):
    return all(upper in part for key in part for upper in path_of(tree, key))


def plain_steps(tree, row):
    """The list of the pairs (arranged, later) of a row that fits, as plain trees; None if there is no step."""
    if not is_plain_top_part(tree, row.lot_before()):
        return None
    pieces = pieces_below(tree, row.lot_before())
    return [(arranged, hung(arranged, pieces, -1, 1000)) for arranged in plain_trees(row.lot_after())]


def small_cases():
    """All shapes and fitting rows on a few keys: (plain tree, row)."""
    found = []
    for living in [(), *lots_of((1, 3, 5, 7))]:
        rows = [row for row in rows_near(living, (0, 4)) if row_fits(living, row)]
        found.extend((tree, row) for tree in plain_trees(living) for row in rows)
    return found


class TestSteps(PlainCase):
    def test_all_small_steps(self):
        kinds = set()
        for tree, row in small_cases():
            shape = shape_of(tree)
            behind = living_behind(shape.living, row)
            found = plain_steps(tree, row)
            if found is None:
                missed = shape.missed_top(row.lot_before())
                arranged = Shape(*row.lot_after())
                self.check_raises(NotTop(missed), step, shape, row, arranged)
                reached = []
            else:
                for arranged, later in found:
                    self.assertEqual(step(shape, row, shape_of(arranged)).order(), order_of(later))
                    self.assertEqual(arranged_by(shape_of(later), row), shape_of(arranged))
                reached = [order_of(later) for _, later in found]
                kinds.add((row.coming is not None, row.going is not None, len(found)))
            for later in shapes_on(behind):
                self.assertIs(is_step(shape, row, later), later.order() in reached)
        self.assertIn((True, False, 1), kinds)
        self.assertIn((False, True, 1), kinds)
        self.assertIn((False, False, 14), kinds)

    def test_read_backward(self):
        for tree, row in small_cases():
            found = plain_steps(tree, row) or []
            earlier = shape_of(tree)
            for _, later_tree in found:
                later = shape_of(later_tree)
                self.assertIs(is_step(later, row.backward(), earlier), True)
                self.assertEqual(step(later, row.backward(), arranged_by(earlier, row.backward())), earlier)

    def test_empty_shapes(self):
        self.assertEqual(step(Shape(), Row((3,), coming=3), Shape(3)), Shape(3))
        self.assertEqual(step(Shape(3), Row((3,), going=3), Shape()), Shape())
        self.assertIs(is_step(Shape(3), Row((3,), going=3), Shape()), True)
        self.assertIs(is_step(Shape(), Row((3,), coming=3), Shape(3)), True)
        self.assertEqual(arranged_by(Shape(), Row((3,), going=3)), Shape())

    def test_larger(self):
        shape = Shape(5, 2, 8, 1, 3, 7, 9)
        self.assertEqual(step(shape, (2, 5), Shape(2, 5)), Shape(2, 1, 5, 3, 8, 7, 9))
        self.assertEqual(step(shape=shape, row=(5, 8), arranged=Shape(8, 5)).text(), "[[[1] 2 [3]] 5 [7]] 8 [9]")
        self.assertIs(is_step(earlier=shape, row=(5, 8), later=Shape(8, 5, 9, 2, 1, 3, 7)), True)
        self.assertIs(is_step(shape, (5, 8), Shape(8, 5, 9, 3, 2, 1, 7)), False)

    def test_other_keys_are_no_step(self):
        shape = Shape(2, 1, 3)
        for later in (Shape(), Shape(2, 1), Shape(2, 1, 3, 4), Shape(2, 1, 4)):
            self.assertIs(is_step(shape, (2,), later), False)
        self.assertIs(is_step(shape, (2,), shape), True)
        self.assertIs(is_step(shape, (4,), shape), False)
        self.assertIs(is_step(shape, Row((3,), going=3), Shape(2, 1)), False)
        self.assertIs(is_step(shape, (1,), shape), False)
        for value in any_values():
            self.assertIs(is_step(shape, (2,), value), False)
        full = Shape(*range(12))
        self.assertIs(is_step(full, Row((11, 12), coming=12), full), False)


class TestErrors(PlainCase):
    def test_no_row(self):
        shape = Shape(2, 1, 3)
        for value in [*any_values(), (), [2], 2]:
            if not isinstance(value, Row):
                self.check_raises(InvalidRow(0), step, shape, value, Shape(9))
                self.check_raises(InvalidRow(0), is_step, shape, value, Shape(9))
                self.check_raises(InvalidRow(0), arranged_by, shape, value)

    def test_rows_that_do_not_fit(self):
        shape = Shape(3, 1, 5)
        self.check_raises(UnknownKey(2), step, shape, (1, 2), Shape(9))
        self.check_raises(AlreadyLiving(1), step, shape, Row((1,), coming=1), Shape(9))
        self.check_raises(NeighbourMissed(2, 1), step, shape, Row((2,), coming=2), Shape(9))
        self.check_raises(NeighbourMissed(1, 3), step, shape, Row((1,), going=1), Shape(9))
        self.check_raises(TooMany("keys", 13), step, Shape(*range(12)), Row((12,), coming=12), Shape(9))

    def test_order_of_errors(self):
        shape = Shape(3, 1, 5)
        self.check_raises(NotTop(1), step, shape, (1, 5), Shape(9))
        self.check_raises(NotTop(5), step, shape, (5,), Shape())
        self.check_raises(OtherKeys(1), step, shape, (1, 3), Shape(3))
        self.check_raises(OtherKeys(0), step, shape, (1, 3), Shape(0, 1, 3))
        self.check_raises(OtherKeys(3), step, shape, (3,), Shape())
        self.check_raises(OtherKeys(1), step, shape, Row((1, 3), going=1), Shape(1, 3))
        self.check_raises(OtherKeys(2), step, shape, Row((1, 2, 3), coming=2), Shape(1, 3))

    def test_arranged_by(self):
        later = Shape(3, 1, 5)
        self.check_raises(UnknownKey(2), arranged_by, later, (1, 2, 4))
        self.check_raises(NotTop(1), arranged_by, later, (1, 5))
        self.check_raises(UnknownKey(9), arranged_by, later=later, row=Row((1, 9), coming=9))
        # The row does not fit the keys, as its coming key lives already and a neighbour is missing.
        self.assertEqual(arranged_by(later, Row((3,), coming=3)), Shape(3))
        self.assertEqual(arranged_by(later, Row((3, 4), going=4)), Shape(3))

    def test_nothing_is_changed(self):
        shape, row, arranged = Shape(3, 1, 5), Row((1, 2, 3), coming=2), Shape(2, 1, 3)
        step(shape, row, arranged)
        is_step(shape, row, arranged)
        self.assertEqual((shape, row, arranged), (Shape(3, 1, 5), Row((1, 2, 3), coming=2), Shape(2, 1, 3)))
        self.assertEqual(shape.order(), order_of(plain_tree((3, 1, 5))))
