"""Promise [47], and the heading prices.py."""

import itertools
import random

from shapebetween.errors import Comes, InvalidNumber, TooMany
from shapebetween.gates import lower_bound
from shapebetween.lazy import holds
from shapebetween.prices import box_cells, cheapest, price
from shapebetween.rows import Row
from shapebetween.scripts import Script
from tests.drawn import drawn_script
from tests.plain import PlainCase, no_numbers
from tests.test_lazy import marked_scripts, wider_scripts


def untouched_cells(wishes):
    return [(moment, key) for moment, row in enumerate(wishes) for key in wishes.living if key not in row.lot]


def added_to(wishes, cells):
    """The script with some cells beside the wishes."""
    rows = [{*row.lot, *(key for at, key in cells if at == moment)} for moment, row in enumerate(wishes)]
    return Script(wishes.living, [tuple(sorted(row)) for row in rows])


def plain_cheapest(wishes, most):
    """The first tuple of cells, by size and then by order, that makes a feasible script."""
    for size in range(most + 1):
        for cells in itertools.combinations(untouched_cells(wishes), size):
            if added_to(wishes, cells).feasible:
                return cells
    return None


def small_wishes(draw, at):
    """Wishes within the limits of prices."""
    living = ((1, 2), (1, 3, 5), (0, 2, 4, 6), (1, 2, 3, 4, 5))[at % 4]
    if at % 3:
        return Script(living, [(draw.choice(living),) for _ in range(draw.randrange(2, 6))])
    return drawn_script(draw, living, draw.randrange(6), marks=False)


HARD = Script((1, 2, 3, 4, 5), [(5,), (1,), (4,), (2,), (5,), (1,)])


class TestPrices(PlainCase):
    def test_drawn_wishes(self):
        draw, seen = random.Random(47), {}
        for at in range(120):
            wishes = small_wishes(draw, at)
            cells = plain_cheapest(wishes, 3)
            seen[None if cells is None else len(cells)] = seen.get(None if cells is None else len(cells), 0) + 1
            if cells is None:
                self.assertIs(price(wishes, most=3), None)
                self.assertIs(cheapest(wishes, most=3), None)
                continue
            for most in range(len(cells), 6):
                self.assertEqual(price(wishes, most=most), len(cells))
                self.assertEqual(cheapest(wishes, most=most), added_to(wishes, cells))
            for most in range(len(cells)):
                self.assertIs(price(wishes, most=most), None)
                self.assertIs(cheapest(wishes, most=most), None)
            self.assertEqual(price(wishes), len(cells))
            self.assertTrue(cheapest(wishes=wishes).feasible and holds(cheapest(wishes), wishes))
            self.assertLessEqual(lower_bound(wishes), cheapest(wishes).touches())
        for size in (None, 0, 1, 2, 3):
            self.assertGreater(seen[size], 3, seen)

    def test_against_all_scripts(self):
        draw = random.Random(48)
        for _ in range(20):
            wishes = drawn_script(draw, (1, 3, 5), 4, marks=False)
            least = min(script.touches() for script in wider_scripts(wishes) if script.feasible)
            self.assertEqual(price(wishes), least - wishes.touches())

    def test_the_least_of_the_cheapest(self):
        wishes = Script((1, 2), [(1,), (2,)])
        self.assertEqual((price(wishes=wishes), cheapest(wishes)), (1, Script((1, 2), [(1, 2), (2,)])))
        wishes = Script((1, 2, 3, 4, 5), [(3,), (1,), (4,), (2,), (5,)])
        self.assertEqual((price(wishes), price(wishes, most=4)), (5, None))
        self.assertEqual(cheapest(wishes), added_to(wishes, plain_cheapest(wishes, 5)))

    def test_feasible_wishes(self):
        for wishes in (Script(()), Script((1, 2)), Script((1, 2), [(1,), (1, 2), (2,)])):
            for most in range(6):
                self.assertEqual(price(wishes, most=most), 0)
                self.assertEqual(cheapest(wishes, most=most), wishes)

    def test_dearer_than_five(self):
        self.assertIs(plain_cheapest(HARD, 5), None)
        # Here the gates alone show that six are needed.
        dear = Script((1, 2, 3, 4, 5), [(1,), (1,), (4,), (3,), (2,), (5,)])
        self.assertEqual(lower_bound(dear), dear.touches() + 6)
        for wishes in (HARD, dear):
            self.assertIs(price(wishes), None)
            self.assertIs(cheapest(wishes), None)

    def test_five(self):
        # At the limits: five keys, six rows, and a price of five.
        wishes = Script((1, 2, 3, 4, 5), [(3,), (2,), (5,), (1,), (3,), (1,)])
        self.assertEqual((price(wishes, most=5), price(wishes, most=4)), (5, None))
        self.assertEqual(cheapest(wishes), added_to(wishes, plain_cheapest(wishes, 5)))


class TestErrors(PlainCase):
    def check_both(self, error, wishes, **named):
        self.check_raises(error, price, wishes, **named)
        self.check_raises(error, cheapest, wishes, **named)

    def test_in_order(self):
        keys = (1, 2, 3, 4, 5, 6)
        marked = Script(keys, [(1,)] * 6 + [Row((1, 2), going=1)])
        for most in (0, 6, -1, None):
            self.check_both(Comes(6), marked, most=most)
            self.check_both(TooMany("price keys", 6), Script(keys, [(1,)] * 7), most=most)
            self.check_both(TooMany("price keys", 12), Script(tuple(range(12))), most=most)
            self.check_both(TooMany("price rows", 7), Script(keys[:5], [(1,)] * 7), most=most)
            self.check_both(TooMany("price rows", 60), Script((1,), [(1,)] * 60), most=most)
        self.check_both(TooMany("price keys", 6), Script(keys))
        self.check_both(TooMany("price rows", 7), Script((1, 2), [(1,)] * 7))
        calm = Script(keys[:5], [(1,)] * 6)
        for most in [*no_numbers(), -1, -10 ** 39]:
            self.check_both(InvalidNumber(most), calm, most=most)
        for most in (6, 10 ** 39):
            self.check_both(TooMany("more", most), calm, most=most)
        for script, moment in marked_scripts():
            self.check_both(Comes(moment), script)

    def test_at_the_limits(self):
        calm = Script((1, 2, 3, 4, 5), [(1,)] * 6)
        self.assertEqual((price(calm), price(calm, most=5), price(calm, most=0)), (0, 0, 0))


class TestBoxes(PlainCase):
    def test_drawn_boxes(self):
        draw = random.Random(49)
        for _ in range(60):
            living = tuple(range(0, 24, 2))[:draw.randrange(1, 13)]
            wishes = drawn_script(draw, living, draw.randrange(2, 30), most=12, marks=False)
            i, j = sorted(draw.sample(range(len(wishes)), 2))
            k, x = draw.choice(living), draw.choice(living)
            wanted = [cell for cell in untouched_cells(wishes) if i <= cell[0] <= j and min(k, x) <= cell[1] <= max(k, x)]
            self.assertEqual(box_cells(wishes, (i, j, k, x)), wanted)

    def test_crosswise_tuples(self):
        draw, many = random.Random(50), 0
        for at in range(40):
            wishes = small_wishes(draw, at)
            for clash in wishes.all_crosswise():
                box = box_cells(wishes=wishes, clash=clash)
                for wider in [cheapest(wishes)] if price(wishes) is not None else []:
                    self.assertTrue(any(key in wider[moment] for moment, key in box))
                    many += 1
        self.assertGreater(many, 30)

    def test_what_is_told(self):
        wishes = Script(tuple(range(12)), [(3,), (4, 9), (5,)] * 20)
        self.assertEqual(box_cells(wishes, (0, 1, 3, 5)), [(0, 4), (0, 5), (1, 3), (1, 5)])
        self.assertEqual(box_cells(wishes, (58, 59, 5, 4)), [(58, 5), (59, 4)])
        self.assertEqual(len(box_cells(wishes, (0, 59, 11, 0))), 720 - 80)
        self.assertEqual(box_cells(Script((1, 2), [(1, 2), (1, 2)]), (0, 1, 1, 2)), [])
        box_cells(wishes, (0, 1, 3, 5)).clear()
        for script, moment in marked_scripts():
            self.check_raises(Comes(moment), box_cells, script, (0, 1, 1, 2))


if __name__ == "__main__":
    import unittest
    unittest.main()
