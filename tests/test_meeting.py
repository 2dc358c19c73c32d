"""Promises [23] and [24], and the heading meeting.py."""

import itertools
import random

from shapebetween.errors import OtherKeys, PastEnd, UnknownKey, Unresolved
from shapebetween.meeting import Meeting
from shapebetween.runs import Runs
from shapebetween.shapes import Shape
from shapebetween.weaktrees import WeakTree
from tests.drawn import drawn_living, drawn_shape, drawn_tree, feasible_script
from tests.plain import PlainCase, any_values, lots_of, shapes_on, weak_numbers, weak_tops, weak_trees_on


def stretches(living):
    return [(one, other) for at, one in enumerate(living) for other in living[at:]]


def tops_of(tree):
    """The plain tops of all stretches."""
    numbers = weak_numbers(tree)
    return {pair: weak_tops(tree.living, numbers, *pair) for pair in stretches(tree.living)}


def plainly_common(past, future, shapes):
    """The shapes whose tops are among the tops of each stretch in both trees."""
    mine, others = tops_of(past), tops_of(future)
    return [shape for shape in shapes
            if all(shape.top_of(*pair) in mine[pair] and shape.top_of(*pair) in others[pair] for pair in mine)]


def plainly_crossing(past, future):
    mine, others = tops_of(past), tops_of(future)
    pairs = [(k, x) for k in past.living for x in past.living if k != x]
    return [(k, x) for k, x in pairs if mine[min(k, x), max(k, x)] == (k,) and others[min(k, x), max(k, x)] == (x,)]


class TestMeeting(PlainCase):
    def check_meeting(self, past, future, shapes):
        meeting = Meeting(past, future)
        wanted = plainly_common(past, future, shapes)
        crossing = plainly_crossing(past, future)
        self.assertEqual(list(meeting.common_shapes()), wanted)
        self.assertEqual(meeting.total, len(wanted))
        self.assertIs(meeting.meets, bool(wanted))
        self.assertIs(bool(meeting), bool(wanted))
        self.assertEqual(meeting.all_crossing(), crossing)
        self.assertEqual(meeting.crossing, crossing[0] if crossing else None)
        self.assertEqual(bool(crossing), not wanted)
        self.assertEqual((meeting.living, meeting.past, meeting.future), (past.living, past, future))
        self.assertEqual((len(meeting), repr(meeting)), (len(past.living), f"Meeting({len(wanted)} shapes)"))
        for number, shape in enumerate(wanted):
            self.assertEqual(meeting.common_at(number), shape)
            self.assertEqual(meeting.number_of(shape), number)
        return meeting

    def check_others(self, meeting, shapes):
        """Shapes that are not common are refused with the first stretch; shared tops are the tops in both."""
        mine, others = tops_of(meeting.past), tops_of(meeting.future)
        for one, other in mine:
            wanted = tuple(key for key in mine[one, other] if key in others[one, other])
            self.assertEqual(meeting.shared(one, other), wanted)
            self.assertEqual(meeting.shared(other, one), wanted)
        for shape in shapes:
            wrong = [pair for pair in sorted(mine)
                     if shape.top_of(*pair) not in mine[pair] or shape.top_of(*pair) not in others[pair]]
            if wrong:
                self.check_raises(Unresolved(*wrong[0]), meeting.number_of, shape)

    def test_all_small_pairs(self):
        for living in [(), *lots_of((0, 4, 999))]:
            shapes, trees = shapes_on(living), weak_trees_on(living)
            for past, future in itertools.product(trees, trees):
                self.check_others(self.check_meeting(past, future, shapes), shapes)

    def test_drawn_pairs_on_four_and_five_keys(self):
        draw, met = random.Random(23), {True: 0, False: 0}
        for living in ((1, 3, 5, 7), (0, 1, 2, 3, 4)):
            shapes, trees = shapes_on(living), weak_trees_on(living)
            for _ in range(100):
                meeting = self.check_meeting(draw.choice(trees), draw.choice(trees), shapes)
                self.check_others(meeting, draw.sample(shapes, 3))
                met[meeting.meets] += 1
        self.assertGreater(min(met.values()), 20)

    def test_where_nothing_lives(self):
        empty = WeakTree((), ())
        meeting = Meeting(past=empty, future=empty)
        self.assertEqual((meeting.meets, bool(meeting), len(meeting), meeting.total), (True, True, 0, 1))
        self.assertEqual((list(meeting.common_shapes()), meeting.crossing, meeting.all_crossing()),
                         ([Shape()], None, []))
        self.assertEqual((meeting.common_at(0), meeting.number_of(Shape())), (Shape(), 0))
        self.assertEqual((repr(meeting), meeting.living), ("Meeting(1 shapes)", ()))
        self.check_raises(UnknownKey(0), meeting.shared, 0, 1)

    def test_scripts_that_are_joined(self):
        draw, met = random.Random(24), {True: 0, False: 0}
        for _ in range(120):
            one = feasible_script(draw, drawn_living(draw), draw.randrange(5))
            other = feasible_script(draw, one.end, draw.randrange(5))
            meeting = Meeting(one.past, other.future)
            self.assertIs(meeting.meets, (one + other).feasible)
            met[meeting.meets] += 1
            # A common shape is what may stand between the two scripts.
            if meeting.meets and one.end and len(one + other) < 6:
                for shape in meeting.common_shapes():
                    self.assertTrue(Runs(one + other, told={len(one): shape}))
        self.assertGreater(min(met.values()), 10)

    def test_there_and_back_on_twelve_keys(self):
        draw, keys = random.Random(25), tuple(range(0, 120, 10))
        level = Meeting(WeakTree.level(keys), WeakTree.level(keys))
        self.assertEqual(level.total, 208012)
        past = WeakTree(keys, (3, 3, 2, 3, 1, 3, 0, 0, 0, 0, 3, 3))
        future = WeakTree(keys, (1, 1, 1, 1, 1, 1, 1, 1, 1, 0, 1, 1))
        partly = Meeting(past, future)
        self.assertGreater(partly.total, 100)
        for meeting in (level, partly):
            found = []
            for number in sorted({0, 1, meeting.total - 1, *(draw.randrange(meeting.total) for _ in range(25))}):
                shape = meeting.common_at(number)
                self.assertEqual(meeting.number_of(shape), number)
                found.append(shape)
            self.assertEqual(len({tuple(shape.order()) for shape in found}), len(found))
        self.assertEqual([partly.number_of(shape) for shape in partly.common_shapes()], list(range(partly.total)))

    def test_a_shape_as_past_or_future(self):
        draw = random.Random(26)
        for _ in range(20):
            shape = drawn_shape(draw, tuple(range(7)))
            tree, level = WeakTree.of_shape(shape), WeakTree.level(tuple(range(7)))
            for meeting in (Meeting(tree, level), Meeting(level, tree), Meeting(tree, tree)):
                self.assertEqual((meeting.total, list(meeting.common_shapes())), (1, [shape]))

    def test_errors(self):
        for one, other, key in [((1, 2), (1, 3), 2), ((), (5,), 5), ((4, 7), (0, 4, 7), 0), ((1,), (8,), 1)]:
            self.check_raises(OtherKeys(key), Meeting, WeakTree.level(one), WeakTree.level(other))
        meeting = Meeting(WeakTree.read("[1] 2 [3]"), WeakTree.read("1 2 3"))
        for value in [*any_values(), 0, 4]:
            self.check_raises(UnknownKey(value), meeting.shared, value, None)
            self.check_raises(UnknownKey(value), meeting.shared, 3, value)
        for value in [*any_values(), meeting.total, -1, 10 ** 1499]:
            if value != 0 or isinstance(value, bool):
                self.check_raises(PastEnd(value, meeting.total), meeting.common_at, value)
        self.check_raises(OtherKeys(3), meeting.number_of, Shape(1, 2))
        self.check_raises(OtherKeys(0), meeting.number_of, Shape(1, 2, 3, 0))
        self.check_raises(Unresolved(1, 2), meeting.number_of, Shape(1, 2, 3))
        self.check_raises(Unresolved(1, 3), meeting.number_of, Shape(3, 2, 1))
        none = Meeting(WeakTree.read("[1] 2"), WeakTree.read("1 [2]"))
        self.check_raises(PastEnd(0, 0), none.common_at, 0)
        self.check_raises(Unresolved(1, 2), none.number_of, Shape(1, 2))
        self.assertEqual((list(none.common_shapes()), none.meets, none.total), ([], False, 0))

    def test_listed_within_one_another(self):
        level = WeakTree.level((1, 2, 3))
        meeting = Meeting(level, level)
        pairs = [(one, other) for one in meeting.common_shapes() for other in meeting.common_shapes()]
        self.assertEqual(pairs, list(itertools.product(shapes_on((1, 2, 3)), repeat=2)))
        meeting.all_crossing().append(None)
        self.assertEqual(meeting.all_crossing(), [])

    def test_trees_of_drawn_scripts(self):
        draw = random.Random(27)
        for _ in range(40):
            keys = tuple(range(6))
            meeting = Meeting(drawn_tree(draw, keys), drawn_tree(draw, keys))
            shapes = list(meeting.common_shapes())
            self.assertEqual(len(shapes), meeting.total)
            self.assertEqual([meeting.number_of(shape) for shape in shapes], list(range(len(shapes))))
            self.assertIs(meeting.meets, not meeting.all_crossing())


if __name__ == "__main__":
    import unittest
    unittest.main()
