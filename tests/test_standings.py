"""Promise [41], and the heading standings.py."""

import random

from shapebetween.badwalks import is_safe
from shapebetween.closed import is_closed
from shapebetween.errors import TooMany
from shapebetween.programs import Program
from shapebetween.standings import standings
from shapebetween.weaktrees import WeakTree
from tests.drawn import past_of_lots
from tests.plain import PlainCase, lots_of, plainly_closed
from tests.test_badwalks import drawn_ring
from tests.test_programs import drawn_program


def plain_standings(program):
    """The standings in their order, each with the rows of a walk that ends there."""
    found = [(program.start, [])]
    known = [(program.start, WeakTree.level(program.living))]
    for node, lots in found:
        for source, target, lot in program.edges():
            if source != node or not plainly_closed(past_of_lots(program.living, lots), lot):
                continue
            pair = (target, past_of_lots(program.living, [*lots, lot]))
            if pair not in known:
                known.append(pair)
                found.append((target, [*lots, lot]))
    return known


def looping_program(more):
    """A program with 399 standings and one more for each node that is put behind the others, up to more."""
    keys = (0, 1, 2, 3, 4)
    edges = [("a", "a", lot) for lot in lots_of(keys)]
    edges += [("a", "b", (key,)) for key in (0, 1, 3, 4)] + [("a", "c", (key,)) for key in (0, 4)]
    names = [f"n{at}" for at in range(more)]
    edges += [(one, other, keys) for one, other in zip(["c", *names], names)]
    return Program(keys, ["a", "b", "c", *names], edges)


class TestStandings(PlainCase):
    def test_drawn_programs(self):
        draw, sizes, safe = random.Random(41), {}, 0
        for at in range(200):
            living = ((1, 2), (1, 3, 5), (0, 2, 4, 6))[at % 3]
            program = drawn_program(draw, living, draw.randrange(1, 6), draw.randrange(9), (0.5, 0.8)[at % 2])
            if at % 4 == 0:
                program = drawn_ring(draw, living, draw.randrange(2, 6))
            found = standings(program)
            self.assertEqual(found, plain_standings(program))
            self.assertTrue(all(type(pair) is tuple for pair in found))
            closed = all(is_closed(tree, program.edges()[index][2]) for node, tree in found
                         for index in program.leaving(node))
            self.assertIs(closed, is_safe(program))
            safe += closed
            sizes[len(found)] = sizes.get(len(found), 0) + 1
        self.assertGreater(sum(many for size, many in sizes.items() if size > 4), 50, sizes)
        self.assertTrue(50 < safe < 150, safe)

    def test_line_by_line(self):
        edges = [("a", "b", (2,)), ("b", "a", (1,)), ("a", "a", (1, 2)), ("b", "b", (1, 2)), ("a", "c", (1,))]
        found = standings(program=Program((1, 2), ["a", "b", "c", "d"], edges))
        self.assertEqual([(node, tree.text()) for node, tree in found],
                         [("a", "1 2"), ("b", "[1] 2"), ("c", "1 [2]"), ("b", "1 2"), ("a", "1 [2]")])

    def test_without_edges(self):
        self.assertEqual(standings(Program((), ["a", "b"])), [("a", WeakTree.level(()))])
        self.assertEqual(standings(Program((1, 2), ["a", "b"], [("b", "a", (1,))])), [("a", WeakTree.level((1, 2)))])

    def test_the_list_is_new(self):
        program = Program((1, 2), ["a"], [("a", "a", (2,))])
        standings(program).clear()
        self.assertEqual(len(standings(program)), 2)

    def test_limit(self):
        self.assertEqual(len(standings(looping_program(0))), 399)
        found = standings(looping_program(1))
        self.assertEqual((len(found), found.count(("n0", WeakTree.level((0, 1, 2, 3, 4))))), (400, 1))
        self.check_raises(TooMany("standings", 401), standings, looping_program(2))
        self.check_raises(TooMany("standings", 401), standings, looping_program(9))
        keys = tuple(range(12))
        far = Program(keys, ["a"], [("a", "a", lot) for lot in lots_of(keys)[:12] + lots_of(keys)[-48:]])
        self.check_raises(TooMany("standings", 401), standings, far)


if __name__ == "__main__":
    import unittest
    unittest.main()
