"""Promises [46] and [54] for gates, and the heading gates.py."""

import itertools
import random

from shapebetween.errors import Comes, InvalidWord
from shapebetween.gates import are_apart, gates_fault, gates_of, is_gate, lower_bound
from shapebetween.lazy import lazy_script
from shapebetween.scripts import Script
from tests.drawn import drawn_script
from tests.plain import PlainCase, any_values
from tests.test_lazy import marked_scripts, plain_lazy, wider_scripts


def plain_rising(wishes):
    """The rising gates as they are told, from the rising lazy script."""
    found = []
    for j, row in enumerate(plain_lazy(wishes, "rising").rows()):
        for k in row.lot[:-1]:
            i = max(at for at in range(j + 1) if k in wishes[at].lot)
            x = min(key for key in wishes[j].lot if key > k)
            following = min(key for key in row.lot if key > k)
            found.append((i, j, k, x, max(key for key in wishes.living if key < following)))
    return found


def plain_falling(wishes):
    """The falling gates as they are told, from the falling lazy script."""
    found = []
    for j, row in enumerate(plain_lazy(wishes, "falling").rows()):
        for k in row.lot[1:]:
            i = max(at for at in range(j + 1) if k in wishes[at].lot)
            x = max(key for key in wishes[j].lot if key < k)
            found.append((i, j, k, x, max(key for key in row.lot if key < k)))
    return found


def all_gates(wishes):
    """All gates, by a look at all tuples of two moments and three living keys."""
    moments, living = range(len(wishes)), wishes.living
    return [(i, j, k, x, g) for i, j, k, x, g in itertools.product(moments, moments, living, living, living)
            if i <= j and k in wishes[i].lot and x in wishes[j].lot and k != x and min(k, x) <= g < max(k, x)]


def plainly_apart(living, one, other):
    def gap(gate):
        return {gate[4], living[living.index(gate[4]) + 1]}

    def stretch(gate):
        return {key for key in living if min(gate[2:4]) <= key <= max(gate[2:4])}

    if not set(range(one[0], one[1] + 1)) & set(range(other[0], other[1] + 1)):
        return True
    return not gap(one) <= stretch(other) or not gap(other) <= stretch(one)


def drawn_wishes(draw, at):
    living = ((1, 2), (1, 3, 5), (0, 2, 4, 6), (1, 2, 3, 4, 5))[at % 4]
    if at % 3 == 0:
        return Script(living, [(draw.choice(living),) for _ in range(draw.randrange(8))])
    return drawn_script(draw, living, draw.randrange(6), marks=False)


class TestGates(PlainCase):
    def test_drawn_wishes(self):
        draw, many = random.Random(46), 0
        for at in range(200):
            wishes = drawn_wishes(draw, at)
            rising, falling = gates_of(wishes), gates_of(wishes=wishes, side="falling")
            self.assertEqual(rising, plain_rising(wishes))
            self.assertEqual(gates_of(wishes, side="rising"), rising)
            self.assertEqual(falling, plain_falling(wishes))
            for found, side in ((rising, "rising"), (falling, "falling")):
                self.assertEqual(lazy_script(wishes, side=side).touches(), len(wishes) + len(found))
                self.assertIs(gates_fault(wishes, tuple(found)), None)
                self.assertEqual(found, sorted(found, key=lambda gate: (gate[1], gate[2])))
                for gate in found:
                    self.assertTrue(is_gate(wishes, gate))
                    self.assertIs(gate[2] < gate[3], side == "rising")
                for one, other in itertools.combinations(found, 2):
                    self.assertTrue(are_apart(wishes, one, other))
            self.assertEqual(lower_bound(wishes), len(wishes) + max(len(rising), len(falling)))
            many += len(rising) != len(falling)
        self.assertGreater(many, 20)

    def test_bounds(self):
        draw, many = random.Random(47), 0
        for _ in range(40):
            wishes = drawn_script(draw, (1, 3, 5), draw.randrange(1, 5), marks=False)
            least = min(script.touches() for script in wider_scripts(wishes) if script.feasible)
            self.assertLessEqual(lower_bound(wishes), least)
            gates = all_gates(wishes)
            draw.shuffle(gates)
            kept = []
            for gate in gates:
                if all(are_apart(wishes, gate, other) for other in kept):
                    kept.append(gate)
            self.assertIs(gates_fault(wishes, tuple(kept)), None)
            self.assertLessEqual(len(wishes) + len(kept), least)
            many += len(kept) > 2
        self.assertGreater(many, 5)

    def test_line_by_line(self):
        wishes = Script((1, 2, 3, 4, 5), [(3,), (1,), (4,), (2,), (5,)])
        self.assertEqual(gates_of(wishes), [(1, 2, 1, 4, 2), (0, 2, 3, 4, 3), (1, 3, 1, 2, 1), (3, 4, 2, 5, 3),
                                            (2, 4, 4, 5, 4)])
        self.assertEqual(gates_of(wishes, side="falling"), [(0, 1, 3, 1, 1), (0, 3, 3, 2, 2), (2, 3, 4, 2, 3)])
        self.assertEqual(lower_bound(wishes=wishes), 10)
        self.assertEqual((gates_of(Script(())), gates_of(Script((1, 2))), lower_bound(Script((1,)))), ([], [], 0))
        gates_of(wishes).clear()
        self.assertEqual(len(gates_of(wishes)), 5)


class TestOneGate(PlainCase):
    def test_all_tuples(self):
        draw = random.Random(48)
        for at in range(12):
            living = ((1, 2), (1, 3, 5), (0, 2))[at % 3]
            wishes = drawn_script(draw, living, draw.randrange(4), marks=False)
            gates = all_gates(wishes)
            moments, some = range(-1, len(wishes) + 1), sorted({*living, 1, 2, living[-1] + 1})
            for value in itertools.product(moments, moments, some, some, some):
                self.assertIs(is_gate(wishes, value), value in gates)

    def test_any_value(self):
        wishes = Script((0, 1, 2), [(0, 1), (1, 2)])
        self.assertIs(is_gate(wishes=wishes, gate=(0, 1, 0, 1, 0)), True)
        for value in [*any_values(), (), (0, 1, 0, 1), (0, 1, 0, 1, 0, 0), [0, 1, 0, 1, 0], (False, 1, 0, 1, 0),
                      (0, True, 0, 1, 0), (0, 1, False, 1, 0), (0, 1, 0, True, 0), (0, 1, 0, 1, False),
                      (0, 1, 0, 1, 0.0), ((0, 1, 0, 1, 0),), (10 ** 39, 10 ** 39, 0, 1, 0), (0, 1, 0, 1, 10 ** 39)]:
            self.assertIs(is_gate(wishes, value), False)

    def test_apart(self):
        draw, seen = random.Random(49), {True: 0, False: 0}
        for at in range(40):
            wishes = drawn_wishes(draw, at)
            gates = all_gates(wishes)
            for _ in range(60 if gates else 0):
                one, other = draw.choice(gates), draw.choice(gates)
                wanted = plainly_apart(wishes.living, one, other)
                self.assertIs(are_apart(wishes, one, other), wanted)
                self.assertIs(are_apart(wishes, other, one), wanted)
                self.assertIs(are_apart(wishes=wishes, one=one, other=one), False)
                seen[wanted] += 1
        self.assertGreater(min(seen.values()), 200)

    def test_apart_line_by_line(self):
        wishes = Script((1, 2, 3), [(1, 3), (1, 3), (2, 3), (1, 2, 3)])
        whole = (0, 1, 1, 3, 1)
        self.assertIs(are_apart(wishes, whole, (2, 3, 2, 3, 2)), True)
        self.assertIs(are_apart(wishes, whole, (1, 2, 1, 2, 1)), False)
        # The gap of one lies within the range of the other, but not the other way round.
        self.assertIs(are_apart(wishes, whole, (1, 2, 3, 2, 2)), True)
        self.assertIs(are_apart(wishes, (0, 1, 1, 3, 2), (1, 2, 3, 2, 2)), False)
        self.assertIs(are_apart(wishes, (0, 1, 3, 1, 2), (1, 2, 3, 2, 2)), False)


class TestErrors(PlainCase):
    def test_marks_and_sides(self):
        calm = Script((1, 2), [(1,), (2,)])
        for script, moment in marked_scripts():
            for side in [*any_values(), "rising", "falling", "both"]:
                self.check_raises(Comes(moment), gates_of, script, side=side)
            self.check_raises(Comes(moment), gates_of, script)
            self.check_raises(Comes(moment), lower_bound, script)
            self.check_raises(Comes(moment), are_apart, script, (0, 1, 1, 2, 1), (0, 1, 1, 2, 1))
            for value in [*any_values(), (0, 1, 1, 2, 1)]:
                self.check_raises(Comes(moment), is_gate, script, value)
                self.assertEqual(gates_fault(script, value), "form")
            self.assertEqual(gates_fault(script, ()), "form")
        for side in [*any_values(), "both", "Rising", "falling "]:
            self.check_raises(InvalidWord(side), gates_of, calm, side=side)

    def test_faults(self):
        wishes = Script((1, 2, 3), [(1, 3), (1, 3), (2, 3), (1, 2, 3)])
        one, near, far = (0, 1, 1, 3, 1), (1, 2, 1, 2, 1), (2, 3, 2, 3, 2)
        self.assertIs(gates_fault(wishes, ()), None)
        self.assertIs(gates_fault(wishes=wishes, gates=(one, far)), None)
        self.assertIs(gates_fault(wishes, (far, one)), None)
        for gates in ((one, near), (near, one), (one, one), (one, far, one), (far, one, near)):
            self.assertEqual(gates_fault(wishes, gates), "apart")
        for gates in (((0, 1, 1, 3, 3),), (one, one, (0, 4, 1, 3, 1)), ((0, 1, 1, 1, 1), one), ((1, 0, 1, 3, 1),),
                      ((0, 1, 2, 3, 2),), ((-1, 1, 1, 3, 1),), (one, (0, 10 ** 39, 1, 3, 1), one)):
            self.assertEqual(gates_fault(wishes, gates), "gate")
        for value in [*any_values(), [one], one, (list(one),), (one[:4],), ((*one, 0),), (one, None), (one, one, "gate"),
                      ((0, 1, 1, 1, 1), (0, 1, True, 3, 1)), ((), one)]:
            self.assertEqual(gates_fault(wishes, value), "form")
        for value in any_values():
            self.assertEqual(gates_fault(wishes, (one, value, one)), "form")


if __name__ == "__main__":
    import unittest
    unittest.main()
