"""Promises [26], [27], [28] and the faults of a run ([17], [54]), and the heading runs.py."""

import random

from shapebetween.errors import InvalidWord, OtherKeys, PastEnd, Stuck
from shapebetween.rows import Row
from shapebetween.runs import Runs, run_fault
from shapebetween.scripts import Script
from shapebetween.shapes import Shape
from tests.drawn import drawn_living, drawn_script, drawn_shape, feasible_script, plain_runs
from tests.plain import PlainCase, any_values, no_numbers, shapes_on


def follows(run, told):
    return all(run[moment] == shape for moment, shape in told.items())


class TestRuns(PlainCase):
    def check_runs(self, script, told, runs):
        """The runs are all that the plain walk through all shapes finds and that follow the told shapes, in order."""
        found = Runs(script, told=told)
        wanted = [run for run in runs if follows(run, told or {})]
        self.assertEqual((found.total, bool(found), len(found)), (len(wanted), bool(wanted), len(script)))
        self.assertEqual(repr(found), f"Runs({len(wanted)} runs)")
        self.assertEqual(found.script, script)
        self.assertEqual(list(found.walk_all()), wanted)
        product = 1
        for many in found.choices():
            product = product * many
        if wanted:
            self.assertEqual((len(found.choices()), product), (len(script) + 1, len(wanted)))
            self.assertEqual(found.choices()[0], len({tuple(run[0].order()) for run in wanted}))
        else:
            self.assertEqual(found.choices(), [])
        for number, run in list(enumerate(wanted))[::max(1, len(wanted) // 20)]:
            self.assertEqual(found.run_at(number), run)
            self.assertEqual(found.run_number(run), number)
            self.assertEqual(found.run_number(tuple(run)), number)
        return found

    def test_plain_steps_through_all_shapes(self):
        draw, seen = random.Random(27), {True: 0, False: 0}
        for at in range(200):
            living = drawn_living(draw, most=4)
            make = (drawn_script, feasible_script)[at % 2]
            script = make(draw, living, draw.randrange(4 if at % 2 else 6), most=4, marks=at % 4 > 1)
            runs = plain_runs(living, script.rows())
            self.check_runs(script, None, runs)
            self.check_runs(script, {}, runs)
            seen[bool(runs)] += 1
        self.assertGreater(min(seen.values()), 10)

    def test_told_shapes(self):
        draw, seen = random.Random(26), {True: 0, False: 0}
        for at in range(200):
            living = drawn_living(draw, most=4)
            script = feasible_script(draw, living, draw.randrange(1, 5), most=4, marks=at % 2 > 0)
            runs = plain_runs(living, script.rows())
            told = {}
            for _ in range(draw.randrange(1, 4)):
                moment = draw.randrange(len(script) + 1)
                # Shapes of a run fit together more often than drawn ones do.
                source = draw.choice(runs)[moment]
                told[moment] = source if draw.random() < 0.6 else drawn_shape(draw, source.living)
            found = self.check_runs(script, told, runs)
            seen[bool(found)] += 1
            for run in draw.sample(runs, min(5, len(runs))):
                self.check_strays(found, told, run)
        self.assertGreater(min(seen.values()), 30)

    def check_strays(self, found, told, run):
        for moment in sorted(told):
            if run[moment] != told[moment]:
                key = min(key for key in run[moment].living if run[moment].path(key) != told[moment].path(key))
                self.check_raises(Stuck(moment, key), found.run_number, run)
                return

    def test_without_rows(self):
        for living in ((), (5,), (0, 5, 999)):
            found = self.check_runs(Script(living), None, [[shape] for shape in shapes_on(living)])
            self.assertEqual(found.choices(), [len(shapes_on(living))])
        one = Runs(Script((0, 5, 999)), told={0: Shape(5, 0, 999)})
        self.assertEqual((one.total, list(one.walk_all())), (1, [[Shape(5, 0, 999)]]))

    def test_everything_goes(self):
        script = Script((1, 2), [Row((1, 2), going=1), Row((2,), going=2), Row((7,), coming=7)])
        found = self.check_runs(script, None, plain_runs((1, 2), script.rows()))
        self.assertEqual((found.choices(), found.total), ([2, 1, 1, 1], 2))
        self.assertEqual(found.run_at(1), [Shape(2, 1), Shape(2), Shape(), Shape(7)])

    def test_counted_not_listed(self):
        keys = tuple(range(12))
        script = Script(keys, [keys] * 60)
        runs = Runs(script)
        self.assertEqual((runs.total, runs.choices()), (208012 ** 61, [208012] * 61))
        for number in (0, 1, runs.total - 1, 10 ** 200 + 7):
            self.assertEqual(runs.run_number(runs.run_at(number)), number)
        told = Runs(script, told={30: Shape(*keys)})
        self.assertEqual(told.total, 208012 ** 60)
        self.assertEqual(told.run_at(told.total // 7)[30], Shape(*keys))
        self.assertEqual(told.run_number(told.run_at(told.total // 7)), told.total // 7)
        self.check_raises(PastEnd(10 ** 1499, runs.total), runs.run_at, 10 ** 1499)
        self.assertEqual(repr(runs), f"Runs({208012 ** 61} runs)")

    def test_walked_within_itself(self):
        runs = Runs(Script((1, 2), [(1, 2)]))
        pairs = [(one, other) for one in runs.walk_all() for other in runs.walk_all()]
        self.assertEqual(len(pairs), 16)
        self.assertEqual(pairs, [(runs.run_at(a), runs.run_at(b)) for a in range(4) for b in range(4)])


class TestErrors(PlainCase):
    def test_told(self):
        script = Script((1, 2), [Row((2, 3), coming=3), (2, 3)])
        good, wrong = Shape(1, 2), Shape(4)
        self.check_raises(PastEnd(-1, 3), Runs, script, told={7: wrong, 3: wrong, -1: wrong, 0: wrong})
        self.check_raises(PastEnd(3, 3), Runs, script, told={0: wrong, 7: wrong, 3: good})
        self.check_raises(PastEnd(10 ** 1499, 3), Runs, script, told={10 ** 1499: good})
        self.check_raises(OtherKeys(1), Runs, script, told={2: Shape(2, 3), 1: Shape(1, 2), 0: Shape(2)})
        self.check_raises(OtherKeys(3), Runs, script, told={2: Shape(2, 3), 1: Shape(1, 2), 0: good})
        self.check_raises(OtherKeys(0), Runs, script, told={1: Shape(1, 2, 3, 0)})
        self.assertEqual(Runs(script, told={0: good}).total, 0)
        self.assertEqual(Runs(script, told={0: Shape(2, 1)}).total, 4)

    def test_told_is_copied(self):
        told = {0: Shape(2, 1)}
        runs = Runs(Script((1, 2), [(1, 2)]), told=told)
        told[0] = Shape(1, 2)
        told[9] = None
        self.assertEqual([run[0] for run in runs.walk_all()], [Shape(2, 1)] * 2)
        self.check_raises(Stuck(0, 1), runs.run_number, [Shape(1, 2), Shape(1, 2)])
        runs.choices().clear()
        runs.run_at(0).clear()
        self.assertEqual((runs.choices(), len(runs.run_at(0))), ([1, 2], 2))

    def test_numbers(self):
        runs = Runs(Script((1, 2), [(1, 2)]))
        for value in [*no_numbers(), 4, -1, 10 ** 1499, -10 ** 1499]:
            self.check_raises(PastEnd(value, 4), runs.run_at, value)
        self.assertEqual(runs.run_at(number=3), [Shape(2, 1), Shape(2, 1)])
        none = Runs(Script((1, 2), [(1,), (2,)]))
        self.assertEqual((none.total, none.choices(), bool(none), len(none)), (0, [], False, 2))
        for value in (0, 1, -1, None):
            self.check_raises(PastEnd(value, 0), none.run_at, value)

    def test_faults(self):
        script = Script((1, 2), [(1,), Row((1, 2, 3), coming=3)])
        good = [Shape(1, 2), Shape(1, 2), Shape(3, 1, 2)]
        runs = Runs(script)
        self.assertIs(run_fault(script, good), None)
        self.assertIs(run_fault(script=script, shapes=tuple(good)), None)
        forms = [*any_values(), good[:2], good + good[:1], [*good[:2], None], [*good[:2], "3"], [*good[:2], (3, 1, 2)],
                 {0: good[0], 1: good[1], 2: good[2]}, [None, good[1], good[2]]]
        for value in forms:
            self.assertEqual(run_fault(script, value), "form")
            self.check_raises(InvalidWord("form"), runs.run_number, value)
        begins = [[Shape(1), Shape(1), Shape(1)], [Shape(1, 2, 3), *good[1:]], [Shape(), Shape(7), Shape(8)]]
        for value in begins:
            self.assertEqual(run_fault(script, value), "begin")
            self.check_raises(InvalidWord("begin"), runs.run_number, tuple(value))
        steps = [[Shape(2, 1), *good[1:]], [good[0], Shape(2, 1), good[2]], [*good[:2], Shape(1, 2)],
                 [good[0], Shape(1), good[2]], [*good[:2], Shape(1, 2, 3, 4)]]
        for value in steps:
            self.assertEqual(run_fault(script, value), "step")
            self.check_raises(InvalidWord("step"), runs.run_number, value)

    def test_faults_of_drawn_lists(self):
        draw, seen = random.Random(54), {None: 0, "step": 0}
        for _ in range(150):
            script = feasible_script(draw, drawn_living(draw, most=3), 3, most=3)
            runs = plain_runs(script.living, script.rows())
            shapes = list(draw.choice(runs))
            at = draw.randrange(len(shapes))
            shapes[at] = drawn_shape(draw, shapes[at].living)
            wanted = None if shapes in runs else "step"
            self.assertEqual(run_fault(script, shapes), wanted)
            seen[wanted] += 1
        self.assertGreater(min(seen.values()), 20)

    def test_faults_come_ahead_of_told_shapes(self):
        script = Script((1, 2), [(1, 2), (1, 2)])
        runs = Runs(script, told={1: Shape(1, 2), 2: Shape(2, 1)})
        one, other = Shape(1, 2), Shape(2, 1)
        self.check_raises(InvalidWord("form"), runs.run_number, [one, other])
        self.check_raises(Stuck(1, 1), runs.run_number, [one, other, one])
        self.check_raises(Stuck(2, 1), runs.run_number, [one, one, one])
        self.assertEqual([runs.run_number([begin, one, other]) for begin in (one, other)], [0, 1])
        deep = Runs(Script((1, 2, 3, 4), [(1, 2, 3, 4)]), told={1: Shape(1, 2, 3, 4)})
        self.check_raises(Stuck(1, 3), deep.run_number, [Shape(1, 2, 3, 4), Shape(1, 2, 4, 3)])

    def test_scripts_that_are_not_feasible(self):
        draw = random.Random(55)
        for _ in range(40):
            script = drawn_script(draw, (1, 2, 3, 4), 4)
            if not script.feasible:
                runs = Runs(script)
                self.assertEqual((list(runs.walk_all()), runs.choices(), runs.total), ([], [], 0))


if __name__ == "__main__":
    import unittest
    unittest.main()
