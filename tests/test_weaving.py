"""Promise [43], and the heading weaving.py."""

import itertools
import math
import random

from shapebetween.badwalks import is_safe
from shapebetween.errors import Comes, OtherKeys, PastEnd, TooMany
from shapebetween.programs import Program
from shapebetween.rows import Row
from shapebetween.scripts import Script
from shapebetween.weaving import weaving_at, weaving_count, weavings, woven
from tests.drawn import drawn_script
from tests.plain import PlainCase, no_numbers


def plain_orders(sizes):
    """All lists of indexes of scripts, ascending."""
    every = [at for at, size in enumerate(sizes) for _ in range(size)]
    return sorted(set(itertools.permutations(every)))


def plain_weaving(scripts, order):
    left = [script.rows() for script in scripts]
    return Script(scripts[0].living, [left[at].pop(0) for at in order])


def plain_woven(scripts):
    """The nodes and the edges of the woven program, as they are told."""
    tuples = list(itertools.product(*[range(len(script) + 1) for script in scripts]))

    def name(done):
        return "p" + "x".join(str(many) for many in done)

    edges = []
    for done in tuples:
        for at, script in enumerate(scripts):
            behind = tuple(many + (at == other) for other, many in enumerate(done))
            if behind in tuples:
                edges.append((name(done), name(behind), script.rows()[done[at]].lot))
    return [name(done) for done in tuples], edges


def calm(rows, lot=(1, 2)):
    """A script of so many rows."""
    return Script((1, 2), [lot] * rows)


class TestWeavings(PlainCase):
    def check_scripts(self, scripts):
        orders = plain_orders([len(script) for script in scripts])
        wanted = [plain_weaving(scripts, order) for order in orders]
        self.assertEqual(weaving_count(*scripts), len(wanted))
        self.assertEqual(list(weavings(*scripts)), wanted)
        for number, script in enumerate(wanted):
            self.assertEqual(weaving_at(number, *scripts), script)
        for number in (-1, len(wanted), 10 ** 1499):
            self.check_raises(PastEnd(number, len(wanted)), weaving_at, number, *scripts)
        if math.prod(len(script) + 1 for script in scripts) > 30:
            return False
        names, edges = plain_woven(scripts)
        program = woven(*scripts)
        self.assertEqual(program, Program(scripts[0].living, names, edges))
        self.assertIs(is_safe(program), all(script.feasible for script in wanted))
        return all(script.feasible for script in wanted)

    def test_drawn_scripts(self):
        draw, safe = random.Random(43), 0
        for at in range(90):
            living = ((1, 2), (1, 3, 5), ())[at % 3]
            sizes = [draw.randrange(4) for _ in range(draw.randrange(1, 4))]
            if at % 5 == 0:
                sizes = [1, draw.randrange(2), 1, 0, draw.randrange(3)]
            safe += self.check_scripts([drawn_script(draw, living, size, marks=False) for size in sizes])
        self.assertTrue(30 < safe < 80, safe)

    def test_equal_weavings_count(self):
        self.assertEqual(weaving_count(calm(2), calm(2)), 6)
        self.assertEqual(list(weavings(calm(2), calm(2))), [calm(4)] * 6)
        self.assertEqual(list(weavings(first=calm(1))), [calm(1)])
        self.assertEqual(weaving_count(first=Script(())), 1)
        self.assertEqual(woven(first=calm(0)), Program((1, 2), ["p0"]))
        self.assertEqual(list(weavings(Script(()), Script(()))), [Script(())])

    def test_line_by_line(self):
        one, other = Script((1, 2), [(1,), (1, 2)]), Script((1, 2), [(2,)])
        self.assertEqual([[row.lot for row in script] for script in weavings(one, other)],
                         [[(1,), (1, 2), (2,)], [(1,), (2,), (1, 2)], [(2,), (1,), (1, 2)]])
        self.assertEqual(woven(one, other).nodes(), ["p0x0", "p0x1", "p1x0", "p1x1", "p2x0", "p2x1"])
        self.assertEqual(woven(one, other).edges(), [
            ("p0x0", "p1x0", (1,)), ("p0x0", "p0x1", (2,)), ("p0x1", "p1x1", (1,)), ("p1x0", "p2x0", (1, 2)),
            ("p1x0", "p1x1", (2,)), ("p1x1", "p2x1", (1, 2)), ("p2x0", "p2x1", (2,))])

    def test_great_numbers(self):
        living = (1, 2, 3, 4, 5)
        scripts = [Script(living, [(key,)] * 12) for key in living]
        count = math.factorial(60) // math.factorial(12) ** 5
        self.assertEqual(weaving_count(*scripts), count)
        draw = random.Random(60)
        for number in [0, 1, count // 2, count - 1, *[draw.randrange(count) for _ in range(10)]]:
            order = [row.lot[0] - 1 for row in weaving_at(number, *scripts)]
            self.assertEqual(self.plain_number(order), number)
        for number in (count, -1, 10 ** 1499):
            self.check_raises(PastEnd(number, count), weaving_at, number, *scripts)
        first = weavings(*scripts)
        self.assertEqual([row.lot for row in next(first)], [(key,) for key in living for _ in range(12)])
        self.assertEqual([row.lot for row in next(first)][46:], [(4,), (5,), (4,)] + [(5,)] * 11)

    def plain_number(self, order):
        """How many lists of the same indexes go ahead of this one."""
        number = 0
        for at, index in enumerate(order):
            rest = order[at:]
            for lesser in sorted(set(rest)):
                if lesser < index:
                    left = list(rest)
                    left.remove(lesser)
                    ways = math.factorial(len(left))
                    for other in set(left):
                        ways //= math.factorial(left.count(other))
                    number += ways
        return number

    def test_within_one_another(self):
        scripts = (Script((1, 2), [(1,)]), Script((1, 2), [(2,)]), calm(1))
        whole = list(weavings(*scripts))
        self.assertEqual([(one, other) for one in weavings(*scripts) for other in weavings(*scripts)],
                         [(one, other) for one in whole for other in whole])


class TestErrors(PlainCase):
    def check_all(self, error, *scripts):
        """All four raise the error, the generator when its first item is requested."""
        self.check_raises(error, weaving_count, *scripts)
        self.check_raises(error, lambda: next(weavings(*scripts)))
        self.check_raises(error, woven, *scripts)
        for number in (0, -1, None):
            self.check_raises(error, weaving_at, number, *scripts)
        weavings(*scripts)

    def test_in_order(self):
        marked = Script((1, 2), [(1,), (1, 2), Row((2, 3), coming=3), Row((2, 3), going=3)])
        later = Script((1, 2), [(1,)] * 30 + [Row((1, 2), going=1)] + [(2,)] * 29)
        others = Script((0, 1, 2, 5), [(1,)] * 60)
        six = [calm(20)] * 6
        self.check_all(Comes(2), calm(1), others, marked, later, *six)
        self.check_all(Comes(30), later, marked, others)
        self.check_all(Comes(2), marked)
        self.check_all(OtherKeys(0), calm(1), calm(2), others, Script((1, 2, 3)), *six)
        self.check_all(OtherKeys(3), calm(1), Script((1, 2, 3)), others)
        self.check_all(OtherKeys(1), calm(0), Script(()))
        self.check_all(TooMany("scripts", 6), *six)
        self.check_all(TooMany("scripts", 400), *[calm(60)] * 400)
        self.check_all(TooMany("moments", 61), calm(30), calm(31))
        self.check_all(TooMany("moments", 61), calm(60), calm(0), calm(0), calm(0), calm(1))
        self.check_all(TooMany("moments", 300), *[calm(60)] * 5)

    def test_at_the_limits(self):
        self.assertEqual(weaving_count(calm(60)), 1)
        self.assertEqual(weaving_at(0, calm(60)), calm(60))
        self.assertEqual(weaving_at(number=0, first=calm(3)), calm(3))
        self.assertEqual(weaving_count(calm(30), calm(30)), math.comb(60, 30))
        self.assertEqual(weaving_count(*[calm(0)] * 5), 1)
        self.assertEqual(woven(*[calm(0)] * 5), Program((1, 2), ["p0x0x0x0x0"]))
        five = [calm(1), calm(0), calm(2), calm(0), calm(1)]
        self.assertEqual(weaving_count(*five), 12)
        for number in no_numbers():
            self.check_raises(PastEnd(number, 12), weaving_at, number, *five)

    def test_nodes_and_edges(self):
        program = woven(calm(29))
        self.assertEqual((len(program), len(program.edges())), (30, 29))
        self.check_raises(TooMany("nodes", 31), woven, calm(30))
        self.assertEqual(len(woven(calm(4), calm(5))), 30)
        self.check_raises(TooMany("nodes", 32), woven, *[calm(1)] * 5)
        self.check_raises(TooMany("nodes", 13 ** 5), woven, *[calm(12)] * 5)
        program = woven(calm(1), calm(4), calm(2))
        self.assertEqual((len(program), len(program.edges())), (30, 59))

    def test_edges_stay_within_their_limit(self):
        # With at most 30 nodes there are never more than 59 edges, so 61 edges come only with more nodes.
        most = 0
        for sizes in itertools.product(range(30), repeat=4):
            nodes = math.prod(size + 1 for size in sizes)
            if nodes <= 30:
                most = max(most, sum(nodes // (size + 1) * size for size in sizes))
        self.assertEqual(most, 59)


if __name__ == "__main__":
    import unittest
    unittest.main()
