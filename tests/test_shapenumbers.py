"""Promise [10] and the heading shapenumbers.py."""

import math

from shapebetween.errors import InvalidLot, InvalidNumber, PastEnd, TooMany
from shapebetween.shapenumbers import all_shapes, shape_at, shape_count, shape_number
from shapebetween.shapes import Shape
from tests.plain import PlainCase, any_values, key_sets, order_of, plain_trees

BAD_NUMBERS = [-1, -10 ** 39, True, False, None, "0", (0,), [0], {}, Shape()]


class TestShapeNumbers(PlainCase):
    def test_counts(self):
        self.assertEqual([shape_count(size) for size in range(6)], [1, 1, 2, 5, 14, 42])
        self.assertEqual(shape_count(12), 208012)
        for size in range(13):
            self.assertEqual(shape_count(size=size), math.comb(2 * size, size) // (size + 1))

    def test_count_errors(self):
        for value in [*any_values(), *BAD_NUMBERS, "3"]:
            if not (isinstance(value, int) and not isinstance(value, bool) and value > 0):
                self.check_raises(InvalidNumber(value), shape_count, value)
        for value in (13, 14, 10 ** 39):
            self.check_raises(TooMany("keys", value), shape_count, value)

    def test_order_and_numbers_both_ways(self):
        for size in range(7):
            for keys in key_sets(size):
                orders = [order_of(tree) for tree in plain_trees(keys)]
                self.assertEqual([shape.order() for shape in all_shapes(keys)], orders)
                for number, order in enumerate(orders):
                    self.assertEqual(shape_at(keys, number).order(), order)
                    self.assertEqual(shape_number(Shape(*order)), number)
                self.check_raises(PastEnd(len(orders), len(orders)), shape_at, keys, len(orders))

    def test_both_ends_on_twelve_keys(self):
        keys = tuple(range(5, 17))
        self.assertEqual(shape_at(keys, 0), Shape(*keys))
        self.assertEqual(shape_at(living=keys, number=208011), Shape(*keys[::-1]))
        for number in (0, 1, 2, 100000, 208009, 208010, 208011):
            self.assertEqual(shape_number(shape=shape_at(keys, number)), number)
        self.check_raises(PastEnd(208012, 208012), shape_at, keys, 208012)
        firsts = []
        for shape in all_shapes(living=keys):
            firsts.append(shape)
            if len(firsts) == 3:
                break
        self.assertEqual(firsts, [shape_at(keys, number) for number in range(3)])

    def test_wrong_numbers(self):
        for number in [*BAD_NUMBERS, 5, 10 ** 1499]:
            self.check_raises(PastEnd(number, 5), shape_at, (1, 2, 3), number)
        self.assertEqual(shape_at((), 0), Shape())
        self.check_raises(PastEnd(1, 1), shape_at, (), 1)

    def test_errors_in_order(self):
        for value in [*any_values(), [1, 2], (2, 1)]:
            self.check_raises(InvalidLot(value), shape_at, value, -1)
            self.check_raises(InvalidLot(value), lambda living: next(all_shapes(living)), value)
        many = tuple(range(13))
        self.check_raises(TooMany("keys", 13), shape_at, many, -1)
        self.check_raises(TooMany("keys", 13), lambda: next(all_shapes(many)))

    def test_generators_wait_with_their_errors(self):
        waiting = all_shapes([1])
        self.check_raises(InvalidLot([1]), lambda: next(waiting))

    def test_listed_within_one_another(self):
        pairs = [(one, other) for one in all_shapes((1, 2, 3)) for other in all_shapes((1, 2, 3))]
        self.assertEqual(len(pairs), 25)
        self.assertEqual([shape_number(other) for _, other in pairs], list(range(5)) * 5)
