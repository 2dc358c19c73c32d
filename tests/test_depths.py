"""Promise [25], and the heading depths.py."""

import itertools
import random

from shapebetween.depths import above, depth_row, greatest_depth, least_depth, surely_pairs
from shapebetween.errors import InvalidWord, NotMeeting, UnknownKey
from shapebetween.meeting import Meeting
from shapebetween.shapes import Shape
from shapebetween.weaktrees import WeakTree
from tests.drawn import drawn_tree
from tests.plain import PlainCase, any_values, lots_of, weak_trees_on


def depth_in(shape, key):
    return len(shape.path(key)) - 1


class TestDepths(PlainCase):
    def check_meeting(self, meeting):
        """Everything is as in the listed common shapes."""
        shapes = list(meeting.common_shapes())
        surely = []
        for upper, lower in itertools.product(meeting.living, repeat=2):
            found = [upper != lower and upper in shape.path(lower) for shape in shapes]
            self.assertIs(above(meeting, upper, lower), all(found))
            self.assertIs(above(meeting, upper, lower, how="surely"), all(found))
            self.assertIs(above(meeting, upper, lower, how="possibly"), any(found))
            self.assertIs(above(meeting, upper, lower, how="never"), not any(found))
            surely += [(upper, lower)] if all(found) else []
        self.assertEqual(surely_pairs(meeting), surely)
        for key in meeting.living:
            depths = [depth_in(shape, key) for shape in shapes]
            self.assertEqual(depth_row(meeting, key), [depths.count(at) for at in range(len(meeting.living))])
            self.assertEqual((least_depth(meeting, key), greatest_depth(meeting, key)), (min(depths), max(depths)))

    def test_all_small_pairs(self):
        many = 0
        for living in [(), *lots_of((0, 4, 999))]:
            trees = weak_trees_on(living)
            for past, future in itertools.product(trees, trees):
                meeting = Meeting(past, future)
                if meeting.meets:
                    self.check_meeting(meeting)
                    many += 1
        self.assertGreater(many, 50)

    def test_drawn_pairs(self):
        draw, many = random.Random(25), 0
        while many < 80:
            keys = tuple(range(0, 3 * draw.randrange(4, 7), 3))
            meeting = Meeting(drawn_tree(draw, keys), drawn_tree(draw, keys))
            if meeting.meets and meeting.total > 1:
                self.check_meeting(meeting)
                many += 1

    def test_counted_on_twelve_keys(self):
        keys = tuple(range(12))
        meeting = Meeting(WeakTree.level(keys), WeakTree.level(keys))
        for key in keys:
            row = depth_row(meeting, key)
            self.assertEqual((len(row), sum(row)), (12, 208012))
            self.assertEqual(row, depth_row(meeting, 11 - key))
            self.assertEqual((least_depth(meeting, key), greatest_depth(meeting, key)), (0, 11))
        self.assertEqual(depth_row(meeting, 0)[0], 58786)
        self.assertEqual(depth_row(meeting, 0)[11], 1)
        self.assertEqual(surely_pairs(meeting), [])

    def test_one_key(self):
        meeting = Meeting(WeakTree.level((7,)), WeakTree.level((7,)))
        self.assertEqual((depth_row(meeting=meeting, key=7), least_depth(meeting=meeting, key=7)), ([1], 0))
        self.assertEqual((greatest_depth(meeting=meeting, key=7), surely_pairs(meeting=meeting)), (0, []))
        self.assertEqual([above(meeting, 7, 7, how=how) for how in ("surely", "possibly", "never")],
                         [False, False, True])
        self.assertEqual(surely_pairs(Meeting(WeakTree((), ()), WeakTree((), ()))), [])

    def test_errors_in_order(self):
        meets = Meeting(WeakTree.read("[1] 2 [3]"), WeakTree.read("1 2 3"))
        none = Meeting(WeakTree.read("[1] 2 [3]"), WeakTree.read("1 [2] 3"))
        for meeting in (meets, none):
            for value in [*any_values(), 0, 4]:
                self.check_raises(UnknownKey(value), above, meeting, value, None, how=None)
                self.check_raises(UnknownKey(value), above, meeting, 1, value, how=None)
                self.check_raises(UnknownKey(value), depth_row, meeting, value)
                self.check_raises(UnknownKey(value), least_depth, meeting, value)
                self.check_raises(UnknownKey(value), greatest_depth, meeting, value)
            for value in [*any_values(), "Surely", "surely ", "always", 1, ["surely"], ("surely",)]:
                self.check_raises(InvalidWord(value), above, meeting, 1, 3, how=value)
        for how in ("surely", "possibly", "never"):
            self.check_raises(NotMeeting(2, 1), above, none, upper=1, lower=3, how=how)
        for ask in (depth_row, least_depth, greatest_depth):
            self.check_raises(NotMeeting(2, 1), ask, none, 3)
        self.check_raises(NotMeeting(2, 1), surely_pairs, none)
        self.assertIs(above(meets, 2, 1), True)

    def test_lists_that_are_told_may_be_changed(self):
        meeting = Meeting(WeakTree.read("[1] 2 [3]"), WeakTree.read("1 2 3"))
        depth_row(meeting, 1).clear()
        surely_pairs(meeting).clear()
        self.assertEqual((depth_row(meeting, 1), surely_pairs(meeting)), ([0, 1, 0], [(2, 1), (2, 3)]))
        self.assertEqual(list(meeting.common_shapes()), [Shape(2, 1, 3)])


if __name__ == "__main__":
    import unittest
    unittest.main()
