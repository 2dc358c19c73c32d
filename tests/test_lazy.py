"""Promises [44] and [45], and the heading lazy.py."""

import itertools
import random

from shapebetween.errors import Comes, InvalidWord
from shapebetween.lazy import holds, last_touches, lazy_script, leaning
from shapebetween.rows import Row
from shapebetween.scripts import Script
from tests.drawn import drawn_script, past_of_lots, plain_crosswise
from tests.plain import PlainCase, any_values, lots_of, weak_needs

SIDES = ("both", "rising", "falling")


def plain_lazy(wishes, side):
    """The rows, one by one: the keys of the wish and what they need on the side in the last touches of the rows."""
    living, lots = wishes.living, []
    for wish in wishes.rows():
        lasts = {key: 1 + moment for moment, lot in enumerate(lots) for key in lot}
        numbers = [lasts.get(key, 0) for key in living]
        found = set(wish.lot)
        for key in wish.lot:
            for needed in weak_needs(living, numbers, key):
                if side == "both" or (side == "rising" and needed < key) or (side == "falling" and needed > key):
                    found.add(needed)
        lots.append(tuple(sorted(found)))
    return Script(living, lots)


def wider_scripts(wishes):
    """All scripts that hold the wishes."""
    rows = [[lot for lot in lots_of(wishes.living) if set(wish.lot) <= set(lot)] for wish in wishes.rows()]
    return [Script(wishes.living, lots) for lots in itertools.product(*rows)]


def marked_scripts():
    """Scripts with a mark, and the first moment of one."""
    return [(Script((1, 2), [(1,), Row((1, 2), going=1), Row((1, 2), coming=1)]), 1),
            (Script((1, 2), [Row((2, 3), coming=3)]), 0), (Script((), [Row((3,), coming=3)]), 0)]


class TestLazyScripts(PlainCase):
    def test_drawn_wishes(self):
        draw, wider = random.Random(44), {side: 0 for side in SIDES}
        for at in range(150):
            living = ((1, 2), (1, 3, 5), (0, 2, 4, 6), tuple(range(12)))[at % 4]
            wishes = drawn_script(draw, living, draw.randrange(9), marks=False)
            if at % 2:
                wishes = Script(living, [(draw.choice(living),) for _ in range(draw.randrange(12))])
            for side in SIDES:
                lazy = lazy_script(wishes, side=side)
                self.assertEqual(lazy, plain_lazy(wishes, side))
                self.assertTrue(holds(lazy, wishes))
                tuples = plain_crosswise(living, lazy.rows())
                self.assertEqual([clash for clash in tuples if side != "falling" and clash[2] < clash[3]], [])
                self.assertEqual([clash for clash in tuples if side != "rising" and clash[2] > clash[3]], [])
                wider[side] += lazy != wishes
            self.assertTrue(lazy_script(wishes).feasible)
            self.assertEqual(lazy_script(wishes), lazy_script(wishes=wishes, side="both"))
        self.assertGreater(min(wider.values()), 50)

    def test_fewest_touches(self):
        draw, many = random.Random(45), 0
        for _ in range(40):
            wishes = drawn_script(draw, (1, 3, 5), draw.randrange(2, 5), marks=False)
            scripts = wider_scripts(wishes)
            rising = min(script.touches() for script in scripts if leaning(script)[0] == 0)
            falling = min(script.touches() for script in scripts if leaning(script)[1] == 0)
            self.assertEqual(lazy_script(wishes, side="rising").touches(), rising)
            self.assertEqual(lazy_script(wishes, side="falling").touches(), falling)
            many += rising > wishes.touches()
        self.assertGreater(many, 10)

    def test_line_by_line(self):
        wishes = Script((1, 2, 3), [(2,), (1,), (3,), (2,)])
        self.assertEqual([row.lot for row in lazy_script(wishes)], [(2,), (1, 2), (2, 3), (2,)])
        self.assertEqual([row.lot for row in lazy_script(wishes, side="rising")], [(2,), (1,), (1, 2, 3), (2,)])
        self.assertEqual([row.lot for row in lazy_script(wishes, side="falling")], [(2,), (1, 2), (3,), (2, 3)])
        for side in SIDES:
            self.assertEqual(lazy_script(Script(()), side=side), Script(()))
            self.assertEqual(lazy_script(Script((1, 2)), side=side), Script((1, 2)))

    def test_errors_in_order(self):
        for script, moment in marked_scripts():
            self.check_raises(Comes(moment), lazy_script, script)
            for side in [*any_values(), *SIDES]:
                self.check_raises(Comes(moment), lazy_script, script, side=side)
        for side in [*any_values(), "Both", "rising ", "up", ("both",), "surely"]:
            self.check_raises(InvalidWord(side), lazy_script, Script((1, 2), [(1,), (2,)]), side=side)


class TestHolds(PlainCase):
    def test_drawn_scripts(self):
        draw, seen = random.Random(46), {True: 0, False: 0}
        for _ in range(200):
            wishes = drawn_script(draw, (1, 3, 5), draw.randrange(4), marks=False)
            wide = [tuple(sorted({*row.lot, *(key for key in (1, 3, 5) if draw.random() < 0.4)})) for row in wishes]
            if wide and draw.random() < 0.5:
                wide[draw.randrange(len(wide))] = draw.choice(lots_of((1, 3, 5)))
            wanted = all(set(row.lot) <= set(lot) for row, lot in zip(wishes, wide))
            self.assertIs(holds(Script((1, 3, 5), wide), wishes), wanted)
            seen[wanted] += 1
        self.assertGreater(min(seen.values()), 20)

    def test_other_scripts(self):
        wishes = Script((1, 2), [(1,), (2,)])
        self.assertIs(holds(script=Script((1, 2), [(1, 2), (1, 2)]), wishes=wishes), True)
        # A script that holds wishes may be without a run.
        self.assertIs(holds(wishes, wishes), True)
        for living, lots in (((1, 2, 3), [(1,), (2,)]), ((1, 2), [(1,)]), ((1, 2), [(1,), (2,), (2,)]),
                             ((1, 2), [(2,), (1, 2)]), ((1, 2), [(1,), (1,)]), ((1, 2, 3), [(1, 2, 3)] * 2)):
            self.assertIs(holds(Script(living, lots), wishes), False)
        for rows in ([(1,), Row((1, 2), going=1)], [(1,), Row((2, 3), coming=3)], [Row((0, 1), coming=0), (2,)]):
            self.assertIs(holds(Script((1, 2), rows), wishes), False)
        self.assertIs(holds(Script((1, 2)), Script((1, 2))), True)
        self.assertIs(holds(Script(()), Script((1,))), False)

    def test_marks_in_the_wishes(self):
        for script, moment in marked_scripts():
            self.check_raises(Comes(moment), holds, Script((1, 2)), script)
            self.check_raises(Comes(moment), holds, script, script)


class TestLastTouches(PlainCase):
    def test_drawn_scripts(self):
        draw, barred, leant = random.Random(47), 0, 0
        for at in range(200):
            living = ((1, 2), (1, 3, 5), (0, 2, 4, 6))[at % 3]
            script = drawn_script(draw, living, draw.randrange(7), marks=False)
            self.assertEqual(last_touches(script), past_of_lots(living, [row.lot for row in script]))
            if script.feasible:
                self.assertEqual(last_touches(script), script.past)
            barred += not script.feasible
            tuples = plain_crosswise(living, script.rows())
            rising = sum(k < x for _, _, k, x in tuples)
            self.assertEqual(leaning(script), (rising, len(tuples) - rising))
            leant += 0 < rising < len(tuples)
        self.assertGreater(min(barred, leant), 20)

    def test_what_is_told(self):
        script = Script((1, 2, 3), [(2,), (1,), (3,)])
        self.assertEqual(last_touches(script=script).text(), "[1 [2]] 3")
        self.assertEqual(leaning(script=script), (2, 1))
        self.assertEqual(leaning(Script((1, 2, 3), [(2,), (3,), (2,)])), (1, 1))
        self.assertEqual((type(leaning(script)), leaning(Script(()))), (tuple, (0, 0)))

    def test_marks(self):
        for script, moment in marked_scripts():
            self.check_raises(Comes(moment), last_touches, script)
            self.check_raises(Comes(moment), leaning, script)


if __name__ == "__main__":
    import unittest
    unittest.main()
