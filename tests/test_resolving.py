"""Promise [14] and the heading resolving.py."""

import itertools
import random

from shapebetween.errors import OtherKeys, PastEnd, Unresolved
from shapebetween.resolving import resolves, resolving_at, resolving_count, resolving_number, resolving_shapes
from shapebetween.shapenumbers import shape_count
from shapebetween.shapes import Shape
from shapebetween.weaktrees import WeakTree
from tests.plain import PlainCase, any_values, key_sets, shapes_on, weak_numbers, weak_tops, weak_trees_on


def first_unresolved(tree, shape):
    numbers = weak_numbers(tree)
    for pair in itertools.combinations_with_replacement(tree.living, 2):
        if shape.top_of(*pair) not in weak_tops(tree.living, numbers, *pair):
            return pair
    return None


def some_trees():
    draw = random.Random(14)
    found = [tree for size in range(5) for keys in key_sets(size)[:2] for tree in weak_trees_on(keys)]
    for size in (5, 6):
        for _ in range(10):
            found.append(WeakTree(key_sets(size)[-1], [draw.randint(0, 3) for _ in range(size)]))
    return found


class TestResolving(PlainCase):
    def test_listed_counted_and_numbered(self):
        for tree in some_trees():
            plain = []
            for shape in shapes_on(tree.living):
                stretch = first_unresolved(tree, shape)
                self.assertIs(resolves(tree, shape), stretch is None)
                if stretch is None:
                    plain.append(shape)
                else:
                    self.check_raises(Unresolved(*stretch), resolving_number, tree, shape)
            self.assertEqual(list(resolving_shapes(tree)), plain)
            self.assertEqual(resolving_count(tree), len(plain))
            for number, shape in enumerate(plain):
                self.assertEqual(resolving_at(tree, number), shape)
                self.assertEqual(resolving_number(tree, shape), number)
            self.check_raises(PastEnd(len(plain), len(plain)), resolving_at, tree, len(plain))

    def test_twelve_keys(self):
        keys = tuple(range(12))
        level = WeakTree.level(keys)
        self.assertEqual(resolving_count(tree=level), 208012)
        self.assertEqual(resolving_at(tree=level, number=208011), Shape(*keys[::-1]))
        self.assertEqual(resolving_number(tree=level, shape=Shape(*keys[::-1])), 208011)
        tree = WeakTree(keys, [0, 1, 1, 0, 2, 0, 0, 0, 2, 2, 1, 1])
        count = shape_count(3) * shape_count(2) * shape_count(1) ** 2 * shape_count(3) * shape_count(2)
        self.assertEqual(resolving_count(tree), count)
        for number in (0, 1, count // 2, count - 1):
            self.assertEqual(resolving_number(tree, resolving_at(tree, number)), number)

    def test_tree_of_a_shape(self):
        for shape in shapes_on((1, 2, 3, 4)):
            self.assertEqual(list(resolving_shapes(tree=WeakTree.of_shape(shape))), [shape])

    def test_wrong_numbers(self):
        tree = WeakTree.read("1 2 [3]")
        for number in [-1, 2, 10 ** 1499, True, False, None, "0", (0,), [0], {}, tree]:
            self.check_raises(PastEnd(number, 2), resolving_at, tree, number)
        self.assertEqual(resolving_at(WeakTree((), ()), 0), Shape())
        self.assertEqual(resolving_count(WeakTree((), ())), 1)
        self.assertEqual(resolving_number(WeakTree((), ()), Shape()), 0)

    def test_other_keys(self):
        tree = WeakTree.read("1 2 [3]")
        for shape, key in ((Shape(), 1), (Shape(1, 2), 3), (Shape(0, 1, 2, 3), 0), (Shape(3, 2, 1, 4), 4)):
            self.check_raises(OtherKeys(key), resolving_number, tree, shape)
            self.assertIs(resolves(tree=tree, shape=shape), False)
        self.check_raises(OtherKeys(1), resolving_number, WeakTree((), ()), Shape(1))
        for value in any_values():
            self.assertIs(resolves(tree, value), False)

    def test_first_stretch(self):
        self.check_raises(Unresolved(1, 3), resolving_number, WeakTree.read("1 2 [3]"), Shape(3, 1, 2))
        self.check_raises(Unresolved(2, 3), resolving_number, WeakTree.read("1 2 [3]"), Shape(1, 3, 2))
