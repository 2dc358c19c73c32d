"""Promises [7] and [8] and the heading shapes.py."""

import itertools

from shapebetween.errors import DuplicateKey, InvalidKey, TooMany, UnknownKey
from shapebetween.rows import Row
from shapebetween.shapes import Shape
from shapebetween.weaktrees import WeakTree
from tests.plain import (PlainCase, any_values, key_sets, keys_of, lots_of, order_of, path_of, plain_tree, plain_trees,
                         shape_of, text_of, top_of)


def small_trees(most=5):
    return [tree for size in range(1, most + 1) for keys in key_sets(size) for tree in plain_trees(keys)]


class TestMaking(PlainCase):
    def test_inserting(self):
        for order in itertools.permutations((0, 4, 5, 7, 999)):
            shape = Shape(*order)
            tree = plain_tree(order)
            self.assertEqual(shape.order(), order_of(tree))
            self.assertEqual(shape.living, (0, 4, 5, 7, 999))
            self.assertEqual(shape.top, order[0])
            self.assertEqual(Shape(*shape.order()), shape)

    def test_errors(self):
        for value in [*any_values(), -1, 1000]:
            self.check_raises(InvalidKey(value), Shape, value)
            self.check_raises(InvalidKey(value), Shape, 1, 1, value, "b")
        self.check_raises(InvalidKey(True), Shape, 1, True)
        self.check_raises(DuplicateKey(3), Shape, 1, 3, 2, 3, 1)
        self.check_raises(DuplicateKey(0), Shape, *range(13), 0)
        self.check_raises(TooMany("keys", 13), Shape, *range(13))
        self.check_raises(TooMany("keys", 20), Shape, *range(20))
        self.assertEqual(len(Shape(*range(12))), 12)

    def test_empty_shape(self):
        shape = Shape()
        self.assertEqual((shape.living, shape.top, shape.order(), len(shape)), ((), None, [], 0))
        self.assertFalse(shape)
        self.assertEqual(shape.left(), shape)
        self.assertEqual(shape.right(), shape)
        self.assertEqual(shape.mirrored(), shape)
        self.assertEqual((shape.text(), str(shape), repr(shape)), (".", ".", "Shape()"))
        self.assertIs(shape.is_top_part(()), True)
        self.assertIs(shape.is_top_part((1,)), False)
        self.assertIsNone(shape.missed_top(()))
        self.assertNotIn(0, shape)
        self.check_raises(UnknownKey(1), shape.path, 1)
        self.check_raises(UnknownKey(1), shape.missed_top, (1, 2))


class TestWalks(PlainCase):
    def test_paths_depths_parents(self):
        for tree in small_trees():
            shape = shape_of(tree)
            for key in keys_of(tree):
                path = path_of(tree, key)
                self.assertEqual(shape.path(key), path)
                self.assertEqual(shape.depth(key), len(path) - 1)
                self.assertEqual(shape.parent(key), path[-2] if len(path) > 1 else None)

    def test_parts(self):
        for tree in small_trees():
            shape = shape_of(tree)
            for part, side in ((tree[1], shape.left()), (tree[2], shape.right())):
                self.assertIsInstance(side, Shape)
                self.assertEqual(side.order(), order_of(part))
                self.assertEqual(side.living, keys_of(part))
            self.assertEqual((shape.living, shape.top, len(shape)), (keys_of(tree), tree[0], len(keys_of(tree))))
            self.assertTrue(shape)

    def test_pairs_of_keys(self):
        for tree in small_trees():
            shape = shape_of(tree)
            for one, other in itertools.product(keys_of(tree), repeat=2):
                above = one != other and one in path_of(tree, other)
                self.assertIs(shape.is_above(one, other), above)
                self.assertEqual(shape.top_of(one, other), top_of(tree, one, other))

    def test_cut(self):
        for tree in small_trees():
            shape = shape_of(tree)
            for one, other in itertools.product(keys_of(tree), repeat=2):
                cut = shape.cut(one, other)
                low, high = min(one, other), max(one, other)
                self.assertEqual(cut.living, tuple(key for key in keys_of(tree) if low <= key <= high))
                for first, last in itertools.combinations_with_replacement(cut.living, 2):
                    self.assertEqual(cut.top_of(first, last), top_of(tree, first, last))

    def test_top_parts(self):
        for tree in small_trees():
            shape = shape_of(tree)
            for part in [(), *lots_of(keys_of(tree))]:
                missed = [key for key in part if key != tree[0] and path_of(tree, key)[-2] not in part]
                self.assertEqual(shape.missed_top(part), min(missed) if missed else None)
                plainly = all(upper in part for key in part for upper in path_of(tree, key))
                self.assertIs(shape.is_top_part(part), plainly)
                self.assertEqual(plainly, not missed)

    def test_mirrored(self):
        for tree in small_trees():
            shape = shape_of(tree)
            mirrored = shape.mirrored()
            self.assertEqual(mirrored.living, tuple(sorted(999 - key for key in keys_of(tree))))
            for key in keys_of(tree):
                self.assertEqual(mirrored.path(999 - key), tuple(999 - upper for upper in path_of(tree, key)))
            self.assertEqual(mirrored.mirrored(), shape)

    def test_words(self):
        for tree in small_trees():
            shape = shape_of(tree)
            self.assertEqual(shape.text(), text_of(tree))
            self.assertEqual(str(shape), text_of(tree))
            self.assertEqual(repr(shape), "Shape(" + ", ".join(str(key) for key in order_of(tree)) + ")")
            self.assertEqual(Shape.read(shape.text()), shape)
            self.assertIsInstance(Shape.read(shape.text()), Shape)


class TestWrongValues(PlainCase):
    def test_unknown_keys(self):
        shape = Shape(5, 0, 1, 9)
        for value in [*any_values(), 2, 999, -1, 1000]:
            for method in (shape.path, shape.depth, shape.parent):
                self.check_raises(UnknownKey(value), method, value)
                self.check_raises(UnknownKey(value), method, key=value)
            for method in (shape.is_above, shape.top_of, shape.cut):
                self.check_raises(UnknownKey(value), method, value, 5)
                self.check_raises(UnknownKey(value), method, 5, value)
                self.check_raises(UnknownKey(value), method, value, "other")
        self.check_raises(UnknownKey(2), shape.is_above, upper=2, lower=3)
        self.check_raises(UnknownKey(2), shape.top_of, one=2, other=3)
        self.check_raises(UnknownKey(2), shape.cut, one=2, other=3)

    def test_top_part_of_other_values(self):
        shape = Shape(5, 0, 1, 9)
        for value in [*any_values(), [5], (5, 10), (2, 5), (5, 0), (5, True)]:
            self.assertIs(shape.is_top_part(value), False, value)
        self.check_raises(UnknownKey(2), shape.missed_top, (1, 2, 3))
        self.check_raises(UnknownKey(10), shape.missed_top, (1, 5, 10))

    def test_contains(self):
        shape = Shape(5, 0, 1, 9)
        for key in (0, 1, 5, 9):
            self.assertIs(key in shape, True)
        for value in [*any_values(), 2, 4, 10]:
            self.assertIs(value in shape, False)

    def test_equal(self):
        shapes = [shape_of(tree) for tree in small_trees(4)] + [Shape()]
        for one, other in itertools.product(shapes, repeat=2):
            self.assertIs(one == other, repr(one) == repr(other))
            self.assertIs(one != other, repr(one) != repr(other))
        for value in [None, (2, 1, 3), "[1] 2 [3]", WeakTree.of_shape(Shape(2, 1, 3)), Row((1, 2, 3))]:
            self.assertIs(Shape(2, 1, 3) == value, False)
            self.assertIs(value == Shape(2, 1, 3), False)

    def test_returned_lists_are_new(self):
        shape = Shape(2, 1, 3)
        shape.order().clear()
        self.assertEqual(shape.order(), [2, 1, 3])
