"""Promises [27] and [29] for scripts that are played, and the heading playing.py."""

import random

from shapebetween.errors import Infeasible, OtherKeys, Stuck
from shapebetween.playing import play, plays
from shapebetween.resolving import resolves, resolving_shapes
from shapebetween.runs import Runs, run_fault
from shapebetween.scripts import Script
from shapebetween.shapes import Shape
from shapebetween.turning import Halves, Keep, Lift, Soonest
from tests.drawn import drawn_living, drawn_script, feasible_script, plain_future, plain_lives
from tests.plain import PlainCase, shapes_on

RULES = [Keep(), Halves(), Lift(3, 5), Lift(), Soonest()]


def plainly_played(script, shape, rule):
    """The shapes that the rule tells one by one; a pair (moment, key) where it is stuck."""
    rows, shapes = script.rows(), [shape]
    lives = plain_lives(script.living, rows)
    for moment, row in enumerate(rows):
        parents = {key: ([None, *shapes[-1].path(key)])[-2] for key in row.lot_before()}
        missed = [key for key in row.lot_before() if parents[key] is not None and parents[key] not in row.lot]
        if missed:
            return moment, missed[0]
        rest = plain_future(lives[moment + 1], rows[moment + 1:])
        shapes.append(rule(shapes[-1], row, rest))
    return shapes


class TestPlaying(PlainCase):
    def test_drawn_scripts(self):
        draw, seen = random.Random(29), {"played": 0, "stuck": 0, "infeasible": 0}
        for at in range(150):
            make = (drawn_script, feasible_script)[at % 3 > 0]
            script = make(draw, drawn_living(draw), draw.randrange(7), marks=at % 2 > 0)
            shape = draw.choice(shapes_on(script.living))
            for rule in RULES:
                if not script.feasible:
                    error = Infeasible(*script.first_crosswise())
                    self.check_raises(error, play, script, shape, rule)
                    self.assertIs(plays(script, shape, rule), False)
                    seen["infeasible"] += 1
                    continue
                wanted = plainly_played(script, shape, rule)
                if isinstance(wanted, tuple):
                    self.check_raises(Stuck(*wanted), play, script, shape, rule)
                    self.assertIs(plays(script, shape, rule), False)
                    seen["stuck"] += 1
                else:
                    self.assertEqual(play(script, shape, rule), wanted)
                    self.assertIs(plays(script, shape, rule), True)
                    self.assertIs(run_fault(script, wanted), None)
                    seen["played"] += 1
        self.assertGreater(min(seen.values()), 40, seen)

    def test_soonest_goes_through(self):
        draw, many = random.Random(30), 0
        for at in range(60):
            script = feasible_script(draw, drawn_living(draw), draw.randrange(8), marks=at % 2 > 0)
            for shape in shapes_on(script.living):
                self.assertIs(plays(script, shape, Soonest()), resolves(script.future, shape))
            for shape in resolving_shapes(script.future):
                shapes = play(script, shape, Soonest())
                self.assertGreaterEqual(Runs(script).run_number(shapes), 0)
                many += 1
        self.assertGreater(many, 100)

    def test_without_rows(self):
        for living in ((), (3,), (1, 2, 3)):
            for shape in shapes_on(living):
                self.assertEqual(play(script=Script(living), shape=shape, rule=Keep()), [shape])
                self.assertIs(plays(script=Script(living), shape=shape, rule=Keep()), True)

    def test_errors_in_order(self):
        crosswise = Script((1, 2, 3), [(1, 2, 3), (2,), (1,), (2,)])
        self.check_raises(Infeasible(1, 2, 2, 1), play, crosswise, Shape(4), Keep())
        self.check_raises(Infeasible(1, 2, 2, 1), play, crosswise, Shape(1, 2, 3), Keep())
        script = Script((1, 2, 3), [(1, 2), (2,), (2, 3)])
        self.check_raises(OtherKeys(3), play, script, Shape(1, 2), Keep())
        self.check_raises(OtherKeys(0), play, script, Shape(1, 2, 3, 0), Keep())
        self.check_raises(Stuck(0, 2), play, script, Shape(3, 2, 1), Keep())
        self.check_raises(Stuck(1, 2), play, script, Shape(1, 2, 3), Keep())
        self.check_raises(Stuck(0, 1), play, script, Shape(3, 1, 2), Soonest())
        for shape in (Shape(4), Shape(3, 2, 1), Shape(1, 2, 3)):
            self.assertIs(plays(script, shape, Keep()), False)
        self.assertEqual([shape.text() for shape in play(script, Shape(1, 2, 3), Soonest())],
                         ["1 [2 [3]]", "[1] 2 [3]", "[1] 2 [3]", "[1] 2 [3]"])
        self.assertEqual([shape.text() for shape in play(script, Shape(1, 2, 3), Lift(2, 3))],
                         ["1 [2 [3]]", "[1] 2 [3]", "[1] 2 [3]", "[1] 2 [3]"])

    def test_lists_that_are_told_are_new(self):
        script, shape = Script((1, 2), [(1, 2)]), Shape(1, 2)
        play(script, shape, Keep()).clear()
        self.assertEqual(play(script, shape, Keep()), [shape, shape])


if __name__ == "__main__":
    import unittest
    unittest.main()
