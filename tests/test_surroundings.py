"""Promises [34] and [35], and the heading surroundings.py."""

import itertools
import random

from shapebetween.errors import InvalidWord, OtherKeys
from shapebetween.forms import Form
from shapebetween.parting import parting_lot
from shapebetween.scripts import Script
from shapebetween.surroundings import fits_between, future_ahead, parting_surroundings, past_behind
from shapebetween.weaktrees import WeakTree
from tests.drawn import drawn_script, drawn_tree, feasible_script
from tests.plain import PlainCase, lots_of, weak_trees_on


def script_of_past(tree):
    """A feasible script with this past tree: fewer and fewer keys are touched, the block last."""
    return Script(tree.living, script_of_future(tree).rows()[::-1])


def script_of_future(tree):
    """A feasible script with this future tree: the block is touched first, then more and more keys."""
    levels = dict(zip(tree.living, tree.levels()))
    return Script(tree.living, [tuple(key for key in tree.living if levels[key] <= at)
                                for at in range(max(levels.values(), default=-1) + 1)])


def drawn_pair(draw, keys):
    """A script without marks and its form."""
    make = (drawn_script, feasible_script)[draw.random() < 0.7]
    some = tuple(key for key in keys if draw.random() < 0.7)
    rows = make(draw, some, draw.randrange(4), marks=False).rows() if some else []
    script = Script(keys, rows)
    return script, Form(script)


def small_forms(keys):
    """Some script of each form of scripts of up to three rows, with its form."""
    found = []
    for many in range(4):
        for rows in itertools.product(lots_of(keys), repeat=many):
            form = Form(Script(keys, rows))
            if all(form != other for _, other in found):
                found.append((Script(keys, rows), form))
    return found


class TestSurroundings(PlainCase):
    def test_scripts_of_trees(self):
        for keys in [(), (3,), (1, 2), (0, 4, 5, 9)]:
            for tree in weak_trees_on(keys):
                self.assertEqual(script_of_past(tree).past, tree)
                self.assertEqual(script_of_future(tree).future, tree)

    def check_between(self, past, script, form, future):
        ahead, behind = script_of_past(past), script_of_future(future)
        wanted = (ahead + script + behind).feasible
        self.assertIs(fits_between(past, form, future), wanted)
        if form.feasible:
            if (ahead + script).feasible:
                self.assertEqual(past_behind(past, form), (ahead + script).past)
            if (script + behind).feasible:
                self.assertEqual(future_ahead(form, future), (script + behind).future)
        return wanted

    def test_against_written_scripts(self):
        draw, seen = random.Random(34), {True: 0, False: 0}
        for at in range(700):
            keys = ((1, 5), (0, 2, 3), (1, 3, 5, 7), (0, 1, 2, 3, 4))[at % 4]
            script, form = drawn_pair(draw, keys)
            past, future = drawn_tree(draw, keys), drawn_tree(draw, keys)
            if draw.random() < 0.5 and form.feasible:
                # Close to the trees of the form more of them meet.
                past = form.future if draw.random() < 0.5 else WeakTree.level(keys)
                future = past_behind(past, form) if draw.random() < 0.5 else WeakTree.level(keys)
            seen[self.check_between(past, script, form, future)] += 1
        self.assertGreater(min(seen.values()), 150)

    def test_all_small_surroundings(self):
        keys = (1, 5)
        trees = weak_trees_on(keys)
        for script, form in small_forms(keys):
            for past, future in itertools.product(trees, trees):
                self.check_between(past, script, form, future)

    def test_trees_that_do_not_meet(self):
        # The first and the second line of [32] tell a tree also where the trees do not meet.
        form = Form(Script((1, 2, 3), [(3,)]))
        self.assertEqual(past_behind(past=WeakTree.read("1 [2 [3]]"), form=form).text(), "[1 [2]] 3")
        self.assertEqual(future_ahead(form=form, future=WeakTree.read("[1] 2 [3]")).text(), "[[1] 2] 3")
        self.assertIs(fits_between(past=WeakTree.read("1 [2 [3]]"), form=form, future=WeakTree.level((1, 2, 3))), False)
        self.assertIs(fits_between(WeakTree.read("[1 2] 3"), form, WeakTree.read("[1] 2 3")), True)
        self.assertIs(fits_between(WeakTree.read("[1 2] 3"), form, WeakTree.read("[1] 2 [3]")), False)

    def test_errors_in_order(self):
        level = WeakTree.level((1, 2))
        barred, good = Form(Script((1, 2), [(1,), (2,)])), Form(Script((1, 2)))
        for form in (barred, good):
            self.check_raises(OtherKeys(3), past_behind, WeakTree.level((1, 2, 3)), form)
            self.check_raises(OtherKeys(1), future_ahead, form, WeakTree.level((2,)))
            self.check_raises(OtherKeys(0), fits_between, WeakTree.level((0, 1, 2)), form, WeakTree.level((2,)))
            self.check_raises(OtherKeys(1), fits_between, level, form, WeakTree.level((2,)))
        self.check_raises(InvalidWord("not feasible"), past_behind, level, barred)
        self.check_raises(InvalidWord("not feasible"), future_ahead, barred, level)
        self.assertIs(fits_between(level, barred, level), False)
        self.assertIs(fits_between(level, good, level), True)


class TestPartingSurroundings(PlainCase):
    def check_parts(self, one, other):
        """Which case of [35] it is, after a look at whether exactly one of the forms fits between."""
        found = parting_surroundings(one, other)
        if one == other:
            self.assertIs(found, None)
            return "equal"
        ahead, behind = found
        self.assertIs(type(found), tuple)
        self.assertEqual((ahead.end, behind.living), (one.living, one.living))
        fits = [fits_between(ahead.past, form, behind.future) for form in (one, other)]
        self.assertEqual(sorted(fits), [False, True])
        self.assertEqual((ahead, behind), self.plain_surroundings(one, other))
        if one.feasible != other.feasible:
            return "feasible"
        return "past" if one.past != other.past else "future" if one.future != other.future else "idle"

    def plain_surroundings(self, one, other):
        keys = one.living
        empty = Script(keys)
        if one.feasible != other.feasible:
            return empty, empty
        if one.past != other.past:
            return empty, Script(keys, [parting_lot(one.past, other.past)])
        if one.future != other.future:
            return Script(keys, [parting_lot(one.future, other.future)]), empty
        for a, b in zip(keys, keys[1:]):
            if one.is_idle(a, b) != other.is_idle(a, b):
                return (Script(keys, [tuple(key for key in keys if key != b)]),
                        Script(keys, [tuple(key for key in keys if key != a)]))
        return None

    def test_all_small_forms(self):
        seen = {}
        for keys in [(), (4,), (1, 5), (0, 2, 3)]:
            forms = [form for _, form in small_forms(keys)]
            for one, other in itertools.product(forms, repeat=2):
                case = self.check_parts(one, other)
                seen[case] = seen.get(case, 0) + 1
        for case in ("equal", "feasible", "past", "future", "idle"):
            self.assertGreater(seen[case], 3, seen)

    def test_drawn_forms(self):
        draw, seen = random.Random(35), {}
        for _ in range(300):
            keys = tuple(range(0, 2 * draw.randrange(2, 7), 2))
            script, one = drawn_pair(draw, keys)
            _, other = drawn_pair(draw, keys)
            case = self.check_parts(one, other)
            seen[case] = seen.get(case, 0) + 1
            # One more row at the end that touches all shows in the past tree and in what is idle.
            self.check_parts(one, Form(script + Script(keys, [keys])))
        self.assertGreater(min(seen[case] for case in ("feasible", "past")), 20)

    def test_told_cases(self):
        keys = (1, 2, 3)
        level, touched = Form(Script(keys)), Form(Script(keys, [keys]))
        ahead, behind = parting_surroundings(one=level, other=touched)
        self.assertEqual((ahead, behind), (Script(keys, [(1, 3)]), Script(keys, [(2, 3)])))
        barred = Form(Script(keys, [(1,), (2,)]))
        self.assertEqual(parting_surroundings(barred, level), (Script(keys), Script(keys)))
        self.assertEqual(parting_surroundings(level, Form(Script(keys, [(2,), keys]))),
                         (Script(keys, [(1,)]), Script(keys)))
        self.assertEqual(parting_surroundings(Form(Script(keys, [(2,)])), level), (Script(keys), Script(keys, [(1,)])))
        self.assertIs(parting_surroundings(touched, touched * 5), None)
        self.assertIs(parting_surroundings(barred, barred * 2), None)

    def test_errors(self):
        for one in (Form(Script((1, 2))), Form(Script((1, 2), [(1,), (2,)]))):
            self.check_raises(OtherKeys(2), parting_surroundings, one, Form(Script((1, 3))))
            self.check_raises(OtherKeys(0), parting_surroundings, Form(Script((0, 1, 2))), one)


if __name__ == "__main__":
    import unittest
    unittest.main()
