"""Promises [31], [32] and [33], and the heading forms.py."""

import itertools
import random

from shapebetween.errors import Comes, InvalidNumber, OtherKeys, TooMany, UnknownKey
from shapebetween.forms import Form
from shapebetween.meeting import Meeting
from shapebetween.rows import Row
from shapebetween.scripts import Script
from shapebetween.weaktrees import WeakTree
from tests.drawn import drawn_script, feasible_script, plain_crosswise, plain_future, plain_past
from tests.plain import PlainCase, any_values, lots_of, no_numbers


def plain_idle(living, rows):
    """The pairs of the ends of all stretches of untouched keys that no longer one holds."""
    touched = {key for row in rows for key in row.lot}
    free = [(one, other) for at, one in enumerate(living) for other in living[at + 1:]
            if not any(one <= key <= other for key in touched)]
    return tuple(sorted((one, other) for one, other in free
                        if not any((a, b) != (one, other) and a <= one and other <= b for a, b in free)))


def plain_form(script):
    """The parts that the form should have."""
    rows = script.rows()
    if plain_crosswise(script.living, rows):
        return script.living, False, None, None, ()
    return (script.living, True, plain_past(script.living, rows), plain_future(script.living, rows),
            plain_idle(script.living, rows))


def parts(form):
    return form.living, form.feasible, form.past, form.future, form.idle


def drawn_forms(seed, many, keys=(0, 2, 3, 7, 9)):
    """Drawn scripts without marks, many of them with idle stretches."""
    draw = random.Random(seed)
    for at in range(many):
        make = (drawn_script, feasible_script, feasible_script)[at % 3]
        calm = draw.sample(keys, draw.randrange(len(keys)))
        script = make(draw, tuple(sorted(set(keys) - set(calm))), draw.randrange(5), marks=False)
        yield Script(keys, script.rows())


def small_scripts(keys):
    """All scripts of up to two rows."""
    lots = lots_of(keys)
    return [Script(keys, rows) for many in range(3) for rows in itertools.product(lots, repeat=many)]


class TestForms(PlainCase):
    def check_form(self, form, script):
        self.assertEqual(parts(form), plain_form(script))
        self.assertIs(type(form.idle), tuple)
        self.assertEqual((len(form), bool(form)), (len(script.living), True))
        for one, other in itertools.product(script.living, repeat=2):
            low, high = min(one, other), max(one, other)
            within = any(first <= low and high <= last for first, last in plain_form(script)[4])
            self.assertIs(form.is_idle(one, other), within)

    def test_plain_forms(self):
        seen = {True: 0, False: 0}
        for script in [*drawn_forms(31, 150), *small_scripts((1, 5, 6)), *small_scripts((4,)), Script(())]:
            self.check_form(Form(script), script)
            self.check_form(Form(script=script), script)
            seen[script.feasible] += 1
        self.assertGreater(min(seen.values()), 25)

    def test_marks(self):
        self.check_raises(Comes(1), Form, Script((1, 2), [(1,), Row((1, 2), going=2), Row((1, 2), coming=2)]))
        self.check_raises(Comes(0), Form, Script((), [Row((2,), coming=2)]))
        # A mark counts in a script that is not feasible, too.
        self.check_raises(Comes(2), Form, Script((1, 2), [(1,), (2,), Row((1, 2), going=2)]))

    def test_reprs(self):
        self.assertEqual(repr(Form(Script((1, 2, 3), ((2,), (1, 2))))), "Form(1 2 [3] | [1] 2 [3] | .)")
        self.assertEqual(repr(Form(Script((1, 2, 3), [(3,)]))), "Form([1 2] 3 | [1 2] 3 | 1-2)")
        self.assertEqual(repr(Form(Script(tuple(range(7)), [(3,)]))),
                         "Form([0 1 2] 3 [4 5 6] | [0 1 2] 3 [4 5 6] | 0-2 4-6)")
        self.assertEqual(repr(Form(Script(()))), "Form(. | . | .)")
        self.assertEqual(repr(Form(Script((5,)))), "Form(5 | 5 | .)")
        self.assertEqual(repr(Form(Script((1, 2), [(1,), (2,)]))), "Form(not feasible)")

    def test_equal_forms(self):
        forms = [(Form(script), plain_form(script)) for script in small_scripts((1, 5, 6))]
        forms += [(Form(script), plain_form(script)) for script in small_scripts((1, 5))]
        for (one, mine), (other, others) in itertools.product(forms, repeat=2):
            self.assertIs(one == other, mine == others)
            self.assertIs(one != other, mine != others)
        # The same form of different scripts, and different forms of scripts with equal trees.
        self.assertEqual(Form(Script((1, 2), [(1, 2)])), Form(Script((1, 2), [(1, 2), (1, 2)])))
        self.assertEqual(Form(Script((1,))), Form(Script((1,), [(1,)])))
        self.assertNotEqual(Form(Script((1, 2))), Form(Script((1, 2), [(1, 2)])))
        barred = Form(Script((1, 2, 3), [(1,), (2,)]))
        self.assertEqual(barred, Form(Script((1, 2, 3), [(3,), (1,), (1, 3)])))
        self.assertNotEqual(barred, Form(Script((1, 2), [(1,), (2,)])))
        for value in [*any_values(), Script((1,)), (1,)]:
            self.assertFalse(Form(Script((1,))) == value)

    def test_is_idle_errors(self):
        for form in (Form(Script((1, 2, 3), [(3,)])), Form(Script((1, 2, 3), [(3,), (1,)]))):
            for value in [*any_values(), 0, 4]:
                self.check_raises(UnknownKey(value), form.is_idle, value, None)
                self.check_raises(UnknownKey(value), form.is_idle, 1, value)
        self.assertIs(Form(Script((1, 2, 3), [(3,)])).is_idle(one=2, other=1), True)
        self.assertIs(Form(Script((1, 2, 3), [(2,)])).is_idle(1, 1), False)
        self.assertIs(Form(Script((1, 2, 3), [(3,)])).is_idle(1, 1), True)


class TestJoined(PlainCase):
    def check_joined(self, one, other):
        both = Form(one) + Form(other)
        self.assertEqual(parts(both), plain_form(one + other))
        self.assertEqual(both, Form(one + other))
        self.assertEqual((repr(both), len(both)), (repr(Form(one + other)), len(one.living)))
        return both.feasible

    def test_all_small_forms(self):
        found = [Form(script) for script in small_scripts((1, 5, 6))]
        scripts = [script for at, script in enumerate(small_scripts((1, 5, 6))) if found[at] not in found[:at]]
        self.assertGreater(len(scripts), 20)
        for one, other in itertools.product(scripts, repeat=2):
            self.check_joined(one, other)

    def test_drawn_forms_in_both_orders(self):
        scripts, seen = list(drawn_forms(32, 300)), {}
        for one, other in zip(scripts, scripts[1:]):
            for first, second in ((one, other), (other, one)):
                kind = (first.feasible, second.feasible, self.check_joined(first, second))
                seen[kind] = seen.get(kind, 0) + 1
        for kind in ((True, True, True), (True, True, False), (False, True, False), (True, False, False)):
            self.assertGreater(seen[kind], 20, seen)

    def test_three_forms(self):
        scripts = list(drawn_forms(33, 90))
        for one, two, three in zip(scripts, scripts[1:], scripts[2:]):
            wanted = Form(one + two + three)
            self.assertEqual((Form(one) + Form(two)) + Form(three), wanted)
            self.assertEqual(Form(one) + (Form(two) + Form(three)), wanted)

    def test_neutral_form(self):
        for script in drawn_forms(34, 40):
            form, empty = Form(script), Form(Script(script.living))
            self.assertEqual((form + empty, empty + form), (form, form))
            self.check_joined(script, Script(script.living))

    def test_errors(self):
        one = Form(Script((1, 2, 3), [(2,), (1,)]))
        self.check_raises(OtherKeys(3), one.__add__, Form(Script((1, 2))))
        self.check_raises(OtherKeys(0), Form(Script((1, 2))).__add__, Form(Script((0, 1, 2, 3))))

    def test_nothing_is_changed(self):
        one, other = Form(Script((1, 2, 3), [(1,)])), Form(Script((1, 2, 3), [(3,)]))
        before = parts(one), parts(other)
        self.assertEqual(repr(one + other), "Form(not feasible)")
        self.assertEqual(repr(one + one * 2), "Form(1 [2 3] | 1 [2 3] | 2-3)")
        self.assertEqual((parts(one), parts(other)), before)


class TestRepeated(PlainCase):
    def test_few_times(self):
        seen = {True: 0, False: 0}
        draw = random.Random(35)
        longer = [feasible_script(draw, (1, 5, 6), 6, marks=False) for _ in range(60)]
        for script in [*drawn_forms(35, 100), *small_scripts((1, 5)), *longer]:
            form = Form(script)
            for times in (0, 1, 2, 3):
                wanted = plain_form(script * times)
                self.assertEqual(parts(form * times), wanted)
                self.assertEqual(parts(times * form), wanted)
            if form.feasible:
                seen[(form * 2).feasible] += 1
                self.assertIs((form * 2).feasible, Meeting(form.past, form.future).meets)
        self.assertGreater(min(seen.values()), 20)

    def test_very_often(self):
        form = Form(Script((1, 2, 3), ((2,), (1, 2))))
        barred = Form(Script((1, 2, 3), ((2,), (1, 2), (1,))))
        for times in (10 ** 12, 10 ** 29, 10 ** 30 - 1):
            self.assertEqual((form * times, times * form), (form, form))
            self.assertEqual((barred * times).feasible, False)
            self.assertEqual((times * barred).past, None)
        self.assertEqual(barred * 1, barred)
        self.assertIs(barred.feasible, True)
        self.assertEqual(repr((barred * 2) * 0), "Form(1 2 3 | 1 2 3 | 1-3)")
        self.assertEqual(repr((barred * 2) * 10 ** 29), "Form(not feasible)")

    def test_errors(self):
        for form in (Form(Script((1, 2, 3), [(2,)])), Form(Script((1, 2), [(1,), (2,)])), Form(Script(()))):
            for value in [*no_numbers(), -1, -10 ** 39]:
                self.check_raises(InvalidNumber(value), lambda: form * value)
                if not isinstance(value, Script):
                    self.check_raises(InvalidNumber(value), lambda: value * form)
            self.check_raises(TooMany("digits", 31), lambda: form * 10 ** 30)
            self.check_raises(TooMany("digits", 40), lambda: (10 ** 40 - 1) * form)

    def test_trees_are_weak_trees(self):
        form = Form(Script((1, 2, 3), [(1,)])) + Form(Script((1, 2, 3), [(1, 3)]))
        self.assertIs(type(form.past), WeakTree)
        self.assertEqual((form.past.text(), form.future.text(), form.idle), ("1 [2] 3", "1 [[2] 3]", ()))


if __name__ == "__main__":
    import unittest
    unittest.main()
