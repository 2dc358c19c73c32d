"""Promise [22] and the heading parting.py."""

import itertools

from shapebetween.errors import OtherKeys
from shapebetween.parting import parting_lot
from shapebetween.weaktrees import WeakTree
from tests.plain import PlainCase, lots_of, plainly_closed, weak_trees_on


class TestParting(PlainCase):
    def test_all_pairs_of_small_trees(self):
        for keys in ((), (4,), (0, 9), (1, 2, 999), (1, 2, 3, 4)):
            closed = [(tree, [lot for lot in lots_of(keys) if plainly_closed(tree, lot)])
                      for tree in weak_trees_on(keys)]
            for (one, lots_one), (other, lots_other) in itertools.product(closed, repeat=2):
                differing = [lot for lot in lots_of(keys) if (lot in lots_one) != (lot in lots_other)]
                found = parting_lot(one, other)
                self.assertEqual(found, differing[0] if differing else None)
                self.assertIs(found is None, one == other)

    def test_twelve_keys(self):
        keys = tuple(range(12))
        tree = WeakTree(keys, [0] * 11 + [1])
        self.assertEqual(parting_lot(one=WeakTree.level(keys), other=tree), (0,))
        self.assertEqual(parting_lot(tree, WeakTree(keys, [0] * 10 + [1, 2])), (0, 11))

    def test_other_keys(self):
        for one, other, key in (("1 2", "1 3", 2), (".", "0", 0), ("1 2 3", "1 2", 3), ("5", "[4] 5", 4)):
            self.check_raises(OtherKeys(key), parting_lot, WeakTree.read(one), WeakTree.read(other))
            self.check_raises(OtherKeys(key), parting_lot, WeakTree.read(other), WeakTree.read(one))
