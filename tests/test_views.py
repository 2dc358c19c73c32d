"""Promise [49], and the heading views.py."""

import random

from shapebetween.errors import Comes, InvalidWall, PastEnd, TooMany, UnknownKey, Untouched
from shapebetween.rows import Row
from shapebetween.runs import Runs
from shapebetween.scripts import Script
from shapebetween.views import (backward, cut_keys, cut_moments, exchanged, keys_merged, mirrored, moments_merged,
                                walled)
from tests.drawn import drawn_living, drawn_script, feasible_script, plain_crosswise, plain_lives
from tests.plain import PlainCase, any_values, no_numbers

MARKED = Script((1, 2, 4), [(1,), (2,), Row((2, 3, 4), coming=3), (1, 2), Row((3, 4), going=4)])


def plainly_feasible(script):
    return not plain_crosswise(script.living, script.rows())


def lots_of_script(script):
    return [row.lot for row in script]


class ViewCase(PlainCase):
    def check_view(self, script, view, living, rows):
        """The view has these rows, and is feasible if the script is."""
        self.assertEqual(view, Script(living, rows))
        self.assertIs(type(view), Script)
        self.assertIs(view.feasible, plainly_feasible(view))
        if script.feasible:
            self.assertTrue(view.feasible)


class TestWithMarks(ViewCase):
    def drawn(self, draw):
        living = drawn_living(draw)
        if draw.random() < 0.5:
            return feasible_script(draw, living, draw.randrange(7))
        return drawn_script(draw, living, draw.randrange(7))

    def test_backward(self):
        draw, seen = random.Random(49), {True: 0, False: 0}
        for _ in range(150):
            script = self.drawn(draw)
            rows = [Row(row.lot, coming=row.going, going=row.coming) for row in script.rows()]
            back = backward(script=script)
            self.check_view(script, back, script.end, rows[::-1])
            self.assertEqual((back.end, back.feasible), (script.living, script.feasible))
            self.assertEqual(backward(back), script)
            if script.feasible:
                self.assertEqual((back.past, back.future), (script.future, script.past))
                if Runs(script).total < 300:
                    turned = sorted([shape.text() for shape in run[::-1]] for run in Runs(back).walk_all())
                    self.assertEqual(turned, sorted([shape.text() for shape in run] for run in Runs(script).walk_all()))
            seen[script.feasible] += 1
        self.assertGreater(min(seen.values()), 10)

    def test_mirrored(self):
        draw = random.Random(50)
        for _ in range(100):
            script = self.drawn(draw)
            turned = mirrored(script=script)
            rows = [Row(tuple(sorted(999 - key for key in row.lot)),
                        coming=None if row.coming is None else 999 - row.coming,
                        going=None if row.going is None else 999 - row.going) for row in script]
            self.check_view(script, turned, tuple(sorted(999 - key for key in script.living)), rows)
            self.assertIs(turned.feasible, script.feasible)
            self.assertEqual(mirrored(turned), script)
            if script.feasible:
                self.assertEqual((turned.past, turned.future), (script.past.mirrored(), script.future.mirrored()))
        self.assertEqual(mirrored(Script((0, 999), [Row((0, 1, 999), coming=1), Row((0, 1), going=0)])).text(),
                         "living 0 999\n0 +998 999\n998 -999\n")

    def test_cut_moments(self):
        draw = random.Random(51)
        for _ in range(60):
            script = self.drawn(draw)
            lives = plain_lives(script.living, script.rows())
            for start in range(len(script) + 1):
                for stop in range(start, len(script) + 1):
                    view = cut_moments(script=script, start=start, stop=stop)
                    self.check_view(script, view, lives[start], script.rows()[start:stop])
                self.assertEqual(cut_moments(script, 0, start) + cut_moments(script, start, len(script)), script)

    def test_errors_of_cut_moments(self):
        script, count = MARKED, 6
        for wrong in [*no_numbers(), -1, 6, 10 ** 1499, -10 ** 39]:
            for stop in (0, 5, 6, -1, None):
                self.check_raises(PastEnd(wrong, count), cut_moments, script, wrong, stop)
            self.check_raises(PastEnd(wrong, count), cut_moments, script, 0, wrong)
            self.check_raises(PastEnd(wrong, count), cut_moments, script, 5, wrong)
        for start in range(1, 6):
            self.check_raises(PastEnd(start - 1, count), cut_moments, script, start, start - 1)
            self.check_raises(PastEnd(0, count), cut_moments, script, start, 0)
            self.assertEqual(len(cut_moments(script, start, start)), 0)
        self.assertEqual(cut_moments(Script(()), 0, 0), Script(()))
        self.check_raises(PastEnd(1, 1), cut_moments, Script(()), 0, 1)
        self.check_raises(PastEnd(1, 1), cut_moments, Script(()), 1, 1)


class TestWithoutMarks(ViewCase):
    def drawn(self, draw, at):
        living = ((1, 2), (1, 3, 5), (0, 7, 8, 999), (), (9,))[at % 5]
        if at % 2:
            return feasible_script(draw, living, draw.randrange(7), marks=False)
        return drawn_script(draw, living, draw.randrange(7), marks=False)

    def test_cut_keys(self):
        draw, less = random.Random(52), 0
        for at in range(100):
            script = self.drawn(draw, at)
            for one in script.living:
                for other in script.living:
                    stretch = tuple(key for key in script.living if min(one, other) <= key <= max(one, other))
                    lots = [tuple(key for key in row.lot if key in stretch) for row in script]
                    view = cut_keys(script=script, one=one, other=other)
                    self.check_view(script, view, stretch, [lot for lot in lots if lot])
                    less += len(view) < len(script) and script.feasible
        self.assertGreater(less, 50)

    def test_exchanged(self):
        draw, many = random.Random(53), 0
        for at in range(150):
            script = self.drawn(draw, at)
            missing = [key for key in script.living if not any(key in row.lot for row in script)]
            if missing:
                self.check_raises(Untouched(missing[0]), exchanged, script)
                continue
            lots = [tuple(at for at, row in enumerate(script) if key in row.lot) for key in script.living]
            turned = exchanged(script=script)
            self.check_view(script, turned, tuple(range(len(script))), lots)
            self.assertIs(turned.feasible, script.feasible)
            back = exchanged(turned)
            names = {key: place for place, key in enumerate(script.living)}
            self.assertEqual(lots_of_script(back), [tuple(names[key] for key in row.lot) for row in script])
            many += len(script) > 2
        self.assertGreater(many, 40)

    def test_exchanged_at_the_limits(self):
        keys = tuple(range(12))
        twice = exchanged(exchanged(Script(keys, [(key,) for key in keys])))
        self.assertEqual(twice, Script(keys, [(key,) for key in keys]))
        self.check_raises(TooMany("keys", 13), exchanged, Script((5, 7), [(5, 7)] * 13))
        self.check_raises(TooMany("keys", 60), exchanged, Script((5,), [(5,)] * 60))
        self.check_raises(Untouched(7), exchanged, Script((5, 7, 8), [(5,)] * 13))
        self.check_raises(Untouched(5), exchanged, Script((5, 7)))
        self.assertEqual(exchanged(Script(())), Script(()))

    def test_keys_merged(self):
        draw = random.Random(54)
        for at in range(100):
            script = self.drawn(draw, at)
            for place, key in enumerate(script.living[:-1]):
                merged = script.living[place + 1]
                lots = [tuple(sorted({key if other == merged else other for other in row.lot})) for row in script]
                living = tuple(other for other in script.living if other != merged)
                self.check_view(script, keys_merged(script=script, key=key), living, lots)

    def test_moments_merged(self):
        draw = random.Random(55)
        for at in range(100):
            script = self.drawn(draw, at)
            lots = lots_of_script(script)
            for moment in range(len(script) - 1):
                both = tuple(sorted({*lots[moment], *lots[moment + 1]}))
                view = moments_merged(script=script, moment=moment)
                self.check_view(script, view, script.living, [*lots[:moment], both, *lots[moment + 2:]])

    def test_walled(self):
        draw, seen = random.Random(56), {True: 0, False: 0}
        for at in range(150):
            one = drawn_script(draw, ((), (0,), (1, 3), (0, 2, 3))[at % 4], draw.randrange(5), marks=False)
            other = drawn_script(draw, ((), (7,), (5, 999), (6, 7, 8))[draw.randrange(4)], draw.randrange(5), marks=False)
            rows = [(*one.rows()[moment].lot, 4) if moment < len(one) else (4,)
                    for moment in range(max(len(one), len(other)))]
            rows = [(*lot, *other.rows()[moment].lot) if moment < len(other) else lot for moment, lot in enumerate(rows)]
            view = walled(one=one, other=other, wall=4)
            self.assertEqual(view, Script((*one.living, 4, *other.living), rows))
            self.assertIs(view.feasible, one.feasible and other.feasible)
            self.assertEqual(view.feasible, plainly_feasible(view))
            seen[view.feasible] += 1
        self.assertGreater(min(seen.values()), 30)

    def test_walled_at_the_limits(self):
        six, five = Script((0, 1, 2, 3, 4, 5), [(1,)]), Script((995, 996, 997, 998, 999), [(997,)] * 60)
        view = walled(six, five, 6)
        self.assertEqual((len(view.living), len(view)), (12, 60))
        self.check_raises(TooMany("keys", 13), walled, six, Script((994, *five.living)), 6)
        twelve = tuple(range(12))
        self.check_raises(TooMany("keys", 25), walled, Script(twelve), Script(tuple(range(20, 32))), 12)
        self.check_raises(TooMany("keys", 13), walled, Script(twelve), Script(()), 12)
        self.assertEqual(walled(Script(()), Script(()), 0), Script((0,)))
        self.assertEqual(walled(Script(()), Script((1,), [(1,)]), 0), Script((0, 1), [(0, 1)]))
        self.assertEqual(walled(Script((998,), [(998,)]), Script(()), 999), Script((998, 999), [(998, 999)]))


class TestErrors(PlainCase):
    def test_marks_go_first(self):
        going = Script((1, 2), [Row((1, 2), going=2), (1,)])
        for script, moment in ((MARKED, 2), (going, 0)):
            for value in [*any_values(), 1, 2]:
                self.check_raises(Comes(moment), cut_keys, script, value, value)
                self.check_raises(Comes(moment), keys_merged, script, value)
                self.check_raises(Comes(moment), moments_merged, script, value)
                self.check_raises(Comes(moment), walled, script, MARKED, value)
                self.check_raises(Comes(moment), walled, Script((7,), [(7,)]), script, value)
            self.check_raises(Comes(moment), exchanged, script)
        self.check_raises(Comes(0), walled, going, MARKED, None)
        self.check_raises(Comes(2), walled, MARKED, going, None)

    def test_keys(self):
        script = Script((1, 3, 5), [(1,), (3, 5)])
        for value in [*any_values(), 0, 2, 6, 999, 1000, (1,)]:
            self.check_raises(UnknownKey(value), cut_keys, script, value, None)
            self.check_raises(UnknownKey(value), cut_keys, script, 3, value)
            self.check_raises(UnknownKey(value), keys_merged, script, value)
        self.check_raises(UnknownKey(5), keys_merged, script, 5)
        for value in [*any_values(), 0, 1]:
            self.check_raises(UnknownKey(value), keys_merged, Script(()), value)
            self.check_raises(UnknownKey(value), cut_keys, Script(()), value, value)
        self.check_raises(UnknownKey(1), keys_merged, Script((1,)), 1)

    def test_moments(self):
        script = Script((1, 3, 5), [(1,), (3, 5), (1,)])
        for value in [*no_numbers(), -1, 2, 3, 10 ** 1499, -10 ** 39]:
            self.check_raises(PastEnd(value, 2), moments_merged, script, value)
        for many, count in ((0, 0), (1, 0), (2, 1)):
            short = Script((1,), [(1,)] * many)
            for value in (count, count + 1, -1):
                self.check_raises(PastEnd(value, count), moments_merged, short, value)
        self.assertEqual(moments_merged(script, 1), Script((1, 3, 5), [(1,), (1, 3, 5)]))

    def test_walls(self):
        one, other = Script((1, 3), [(1,)]), Script((5, 8))
        for value in [*any_values(), 3, 1, 5, 6, 0, 8, 9, 2, 1000, (4,), "4"]:
            self.check_raises(InvalidWall(value), walled, one, other, value)
        self.assertEqual(walled(one, other, 4).living, (1, 3, 4, 5, 8))
        for wall in (3, 4, 5):
            self.check_raises(InvalidWall(wall), walled, one, Script((3, 5)), wall)
            self.check_raises(InvalidWall(wall), walled, other, one, wall)
        twelve = Script(tuple(range(12)))
        self.check_raises(InvalidWall(11), walled, twelve, twelve, 11)
        for value in any_values():
            self.check_raises(InvalidWall(value), walled, Script(()), Script(()), value)


if __name__ == "__main__":
    import unittest
    unittest.main()
