"""Promises [12], [13] (what a key needs) and [15], and the heading weaktrees.py."""

import itertools
import random

from shapebetween.errors import InvalidLot, InvalidNumbers, NotClosed, TooMany, UnknownKey
from shapebetween.rows import Row
from shapebetween.shapes import Shape
from shapebetween.weaktrees import WeakTree
from tests.plain import (PlainCase, any_values, key_sets, lots_of, number_rows, plainly_closed, shapes_on, weak_needs,
                         weak_numbers, weak_text, weak_tops, weak_trees_on)


def drawn_rows():
    """Keys with drawn numbers, small and great, below 0 and above."""
    draw = random.Random(20261119)
    found = [(keys, numbers) for size in range(1, 5) for keys in key_sets(size) for numbers in number_rows(size, 3)]
    for size in (5, 6):
        for keys in key_sets(size):
            for most in (1, 2, 3, 9, 10 ** 39):
                for _ in range(12):
                    found.append((keys, tuple(draw.randint(-most, most) for _ in keys)))
    return found


class TestMaking(PlainCase):
    def test_tops_of_all_stretches(self):
        for keys, numbers in drawn_rows():
            tree = WeakTree(keys, list(numbers))
            self.assertEqual(tree.living, keys)
            self.assertEqual(tree.block, tuple(k for k, n in zip(keys, numbers) if n == max(numbers)))
            for one, other in itertools.product(keys, repeat=2):
                self.assertEqual(tree.tops(one, other), weak_tops(keys, numbers, one, other))

    def test_texts_and_words(self):
        for keys, numbers in drawn_rows():
            tree = WeakTree(living=keys, numbers=numbers)
            text = weak_text(keys, numbers)
            self.assertEqual((tree.text(), str(tree), repr(tree)), (text, text, f"WeakTree({text})"))
            self.assertEqual(len(tree), len(keys))
            self.assertTrue(tree)

    def test_gaps_and_levels(self):
        for keys, numbers in drawn_rows():
            tree = WeakTree(keys, numbers)
            gaps = tree.gaps()
            self.assertEqual(len(gaps), len(tree.block) + 1)
            edges = [-1, *tree.block, 1000]
            levels = {key: 0 for key in tree.block}
            for low, high, gap in zip(edges, edges[1:], gaps):
                inside = [(key, number) for key, number in zip(keys, numbers) if low < key < high]
                plain = WeakTree(tuple(key for key, _ in inside), [number for _, number in inside])
                self.assertEqual(gap, plain)
                levels.update((key, level + 1) for key, level in zip(gap.living, gap.levels()))
            self.assertEqual(tree.levels(), [levels[key] for key in keys])

    def test_minus_the_levels_give_the_tree_again(self):
        for keys, numbers in drawn_rows():
            tree = WeakTree(keys, numbers)
            self.assertEqual(WeakTree(keys, weak_numbers(tree)), tree)

    def test_equal_if_each_stretch_has_the_same_tops(self):
        keys = (2, 5, 6)
        pairs = list(itertools.combinations_with_replacement(keys, 2))
        trees = [WeakTree(keys, numbers) for numbers in number_rows(3)]
        for one, other in itertools.product(trees, repeat=2):
            same = all(one.tops(*pair) == other.tops(*pair) for pair in pairs)
            self.assertIs(one == other, same)
            self.assertIs(one != other, not same)
        self.assertNotEqual(WeakTree((1, 2), (0, 0)), WeakTree((1, 3), (0, 0)))
        for value in [None, "1 2", (1, 2), Shape(1), Row((1, 2))]:
            self.assertIs(WeakTree.read("1 2") == value, False)
            self.assertIs(WeakTree.read("1") == value, False)

    def test_empty_tree(self):
        tree = WeakTree((), ())
        self.assertEqual((tree.living, tree.block, tree.gaps(), tree.levels(), len(tree)), ((), (), [], [], 0))
        self.assertFalse(tree)
        self.assertEqual((tree.text(), repr(tree)), (".", "WeakTree(.)"))
        self.assertEqual([tree.kept(()), tree.mirrored(), WeakTree.read("."), WeakTree.level(()), WeakTree((), [])],
                         [tree] * 5)
        self.assertEqual(WeakTree.of_shape(Shape()), tree)
        self.check_raises(UnknownKey(0), tree.tops, 0, 0)
        self.check_raises(UnknownKey(0), tree.needs, 0)
        self.check_raises(UnknownKey(0), tree.cut, 0, 0)
        self.check_raises(UnknownKey(0), tree.kept, (0,))

    def test_numbers_of_forty_digits(self):
        great = 10 ** 40 - 1
        tree = WeakTree((1, 2, 3), [great - 1, great, -great])
        self.assertEqual(tree.text(), "[1] 2 [3]")
        self.assertEqual(WeakTree((1, 2), [great, great]).text(), "1 2")

    def test_errors_in_order(self):
        for value in [*any_values(), [1, 2], (2, 1), 7]:
            self.check_raises(InvalidLot(value), WeakTree, value, None)
            self.check_raises(InvalidLot(value), WeakTree.level, value)
        many = tuple(range(13))
        self.check_raises(TooMany("keys", 13), WeakTree, many, None)
        self.check_raises(TooMany("keys", 13), WeakTree.level, many)
        for value in [*any_values(), [1], (1, 2, 3), (), "12", {1: 1, 2: 2}, 12]:
            if not (isinstance(value, (list, tuple)) and len(value) == 2):
                self.check_raises(InvalidNumbers(-1), WeakTree, (1, 2), value)
        for value in any_values():
            if not isinstance(value, int) or isinstance(value, bool):
                self.check_raises(InvalidNumbers(0), WeakTree, (1, 2), [value, value])
                self.check_raises(InvalidNumbers(1), WeakTree, (1, 2), (3, value))

    def test_numbers_are_copied(self):
        numbers = [1, 2]
        tree = WeakTree((1, 2), numbers)
        numbers[0] = 5
        self.assertEqual(tree.text(), "[1] 2")
        tree.levels().clear()
        tree.gaps().clear()
        self.assertEqual((tree.levels(), len(tree.gaps())), ([1, 0], 2))

    def test_level_tree_and_tree_of_a_shape(self):
        self.assertEqual(WeakTree.level(living=(1, 5, 9)).text(), "1 5 9")
        for size in range(6):
            for shape in shapes_on(tuple(range(size))):
                tree = WeakTree.of_shape(shape=shape)
                self.assertIsInstance(tree, WeakTree)
                self.assertEqual(tree.text(), shape.text())
                for one, other in itertools.product(shape.living, repeat=2):
                    self.assertEqual(tree.tops(one, other), (shape.top_of(one, other),))

    def test_mirrored(self):
        for keys, numbers in drawn_rows():
            plain = WeakTree(tuple(999 - key for key in keys[::-1]), numbers[::-1])
            self.assertEqual(WeakTree(keys, numbers).mirrored(), plain)
            self.assertEqual(plain.mirrored(), WeakTree(keys, numbers))


class TestNeeds(PlainCase):
    def test_needs(self):
        for keys, numbers in drawn_rows():
            tree = WeakTree(keys, numbers)
            for key in keys:
                self.assertEqual(tree.needs(key), weak_needs(keys, numbers, key))
        self.assertEqual(WeakTree.read("[1] 2 [3]").needs(key=1), (2,))

    def test_unknown_keys(self):
        tree = WeakTree.read("[0] 1 [5]")
        for value in [*any_values(), 2, -1, 1000]:
            self.check_raises(UnknownKey(value), tree.needs, value)
            for method in (tree.tops, tree.cut):
                self.check_raises(UnknownKey(value), method, value, "other")
                self.check_raises(UnknownKey(value), method, 1, value)
                self.check_raises(UnknownKey(value), method, one=value, other=1)


class TestCutAndKept(PlainCase):
    def test_cut(self):
        for keys, numbers in drawn_rows():
            tree = WeakTree(keys, numbers)
            for one, other in itertools.product(keys, repeat=2):
                low, high = min(one, other), max(one, other)
                inside = [(key, number) for key, number in zip(keys, numbers) if low <= key <= high]
                plain = WeakTree(tuple(key for key, _ in inside), [number for _, number in inside])
                self.assertEqual(tree.cut(one, other), plain)

    def test_kept(self):
        for keys, numbers in drawn_rows():
            tree = WeakTree(keys, numbers)
            by_key = dict(zip(keys, numbers))
            for lot in [(), *lots_of(keys)]:
                if plainly_closed(tree, lot):
                    self.assertEqual(tree.kept(lot), WeakTree(lot, [by_key[key] for key in lot]))
                else:
                    with self.assertRaises(NotClosed):
                        tree.kept(lot)

    def test_again_within_cut_and_kept(self):
        for tree in weak_trees_on((1, 2, 3, 4)):
            for lot in [lot for lot in lots_of(tree.living) if plainly_closed(tree, lot)]:
                kept = tree.kept(lot=lot)
                for again in [again for again in lots_of(lot) if plainly_closed(kept, again)]:
                    self.assertTrue(plainly_closed(tree, again))
                    self.assertEqual(kept.kept(again), tree.kept(again))
                for one, other in itertools.combinations_with_replacement(lot, 2):
                    cut = kept.cut(one, other)
                    self.assertEqual(cut.cut(one, one), WeakTree((one,), (0,)))
                    self.assertEqual(cut.cut(one, other), cut)
            self.assertEqual(tree.cut(1, 4), tree)
            self.assertEqual(tree.cut(4, 2).cut(2, 3), tree.cut(2, 3))

    def test_kept_errors_in_order(self):
        tree = WeakTree.read("[0 1] 5 [7]")
        for value in [*any_values(), [5], (5, 0), 5]:
            self.check_raises(InvalidLot(value), tree.kept, value)
        self.check_raises(UnknownKey(2), tree.kept, (0, 2, 3))
        self.check_raises(UnknownKey(8), tree.kept, (0, 1, 5, 7, 8))
        self.check_raises(NotClosed(0, 5), tree.kept, (0, 1))
        self.check_raises(NotClosed(7, 5), tree.kept, (7,))
        self.check_raises(TooMany("keys", 13), WeakTree, tuple(range(13)), (0,))
