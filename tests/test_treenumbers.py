"""Promise [16] and the heading treenumbers.py."""

from shapebetween.errors import InvalidLot, InvalidNumber, PastEnd, TooMany
from shapebetween.treenumbers import all_trees, tree_at, tree_count, tree_number
from shapebetween.weaktrees import WeakTree
from tests.plain import PlainCase, any_values, key_sets, weak_trees_on

BAD_NUMBERS = [-1, -10 ** 39, True, False, None, "0", (0,), [0], {}, WeakTree((), ())]


def place(tree):
    """A sort key: the size of the block, the block, the places of the gaps."""
    if not tree.living:
        return ()
    return (len(tree.block), tree.block, tuple(place(gap) for gap in tree.gaps()))


class TestTreeNumbers(PlainCase):
    def test_counts(self):
        self.assertEqual([tree_count(size) for size in range(6)], [1, 1, 3, 11, 45, 197])
        self.assertEqual(tree_count(size=12), 13648869)

    def test_count_errors(self):
        for value in [*any_values(), *BAD_NUMBERS, "3"]:
            if not (isinstance(value, int) and not isinstance(value, bool) and value > 0):
                self.check_raises(InvalidNumber(value), tree_count, value)
        for value in (13, 14, 10 ** 39):
            self.check_raises(TooMany("keys", value), tree_count, value)

    def test_order_and_numbers_both_ways(self):
        for size in range(6):
            for keys in key_sets(size):
                trees = sorted(weak_trees_on(keys), key=place)
                self.assertEqual(len(trees), tree_count(size))
                self.assertEqual(list(all_trees(keys)), trees)
                for number, tree in enumerate(trees):
                    self.assertEqual(tree_at(keys, number), tree)
                    self.assertEqual(tree_number(tree), number)
                self.check_raises(PastEnd(len(trees), len(trees)), tree_at, keys, len(trees))

    def test_twelve_keys(self):
        keys = tuple(range(5, 17))
        self.assertEqual(tree_at(living=keys, number=13648868), WeakTree.level(keys))
        self.assertEqual(tree_number(tree=WeakTree.level(keys)), 13648868)
        for number in (0, 1, 2, 500000, 7777777, 13648867):
            self.assertEqual(tree_number(tree_at(keys, number)), number)
        self.check_raises(PastEnd(13648869, 13648869), tree_at, keys, 13648869)
        self.assertEqual(next(all_trees(living=keys)), tree_at(keys, 0))

    def test_wrong_numbers(self):
        for number in [*BAD_NUMBERS, 11, 10 ** 1499]:
            self.check_raises(PastEnd(number, 11), tree_at, (1, 2, 3), number)
        self.assertEqual(tree_at((), 0), WeakTree((), ()))
        self.check_raises(PastEnd(1, 1), tree_at, (), 1)

    def test_errors_in_order(self):
        for value in [*any_values(), [1, 2], (2, 1)]:
            self.check_raises(InvalidLot(value), tree_at, value, -1)
            self.check_raises(InvalidLot(value), lambda living: next(all_trees(living)), value)
        many = tuple(range(13))
        self.check_raises(TooMany("keys", 13), tree_at, many, -1)
        self.check_raises(TooMany("keys", 13), lambda: next(all_trees(many)))

    def test_listed_within_one_another(self):
        waiting = all_trees([1])
        self.check_raises(InvalidLot([1]), lambda: next(waiting))
        pairs = [(one, other) for one in all_trees((1, 2)) for other in all_trees((1, 2))]
        self.assertEqual([tree_number(other) for _, other in pairs], list(range(3)) * 3)
