"""Promises [39] and [40], and the heading tables.py."""

import random

from shapebetween.badwalks import bad_walk, is_safe
from shapebetween.errors import Unsafe
from shapebetween.programs import Program
from shapebetween.tables import least_table, table_fault, waiting
from tests.plain import PlainCase, any_values
from tests.test_badwalks import drawn_ring
from tests.test_programs import drawn_program


def between(lot, k, x):
    return [key for key in lot if min(k, x) <= key <= max(k, x)]


def waiting_pairs(living, lots):
    """The pairs for which the end of a walk waits, as they are told, from all its rows."""
    return {(k, x) for k in living for x in living if k != x for at, lot in enumerate(lots)
            if between(lot, k, x) == [k] and not any(between(later, k, x) for later in lots[at + 1:])}


def plain_reached_and_waits(program):
    """The nodes and the triples of all walks: walks that wait alike at one node go on alike."""
    ahead, seen = [(program.start, [])], set()
    reached, waits = set(), set()
    while ahead:
        node, lots = ahead.pop()
        pairs = waiting_pairs(program.living, lots)
        if (node, frozenset(pairs)) in seen:
            continue
        seen.add((node, frozenset(pairs)))
        reached.add(node)
        waits |= {(k, x, node) for k, x in pairs}
        ahead += [(target, [*lots, lot]) for source, target, lot in program.edges() if source == node]
    return tuple(sorted(reached)), tuple(sorted(waits))


def plain_fault(program, reached, waits):
    """The first word behind `form` that applies to a table of the right form."""
    living, edges = program.living, program.edges()
    if program.start not in reached:
        return "start"
    if any(source in reached and target not in reached for source, target, _ in edges):
        return "edge"
    for source, target, lot in edges:
        for k in living:
            for x in living:
                if source in reached and k != x and between(lot, k, x) == [k] and (k, x, target) not in waits:
                    return "begin"
    for k, x, node in waits:
        for source, target, lot in edges:
            if source == node and not between(lot, k, x) and (k, x, target) not in waits:
                return "stay"
    for k, x, node in waits:
        for source, _, lot in edges:
            if source == node and between(lot, k, x) == [x]:
                return "clash"
    return None


class TestWaiting(PlainCase):
    def test_drawn_programs(self):
        draw, safe, lost = random.Random(39), 0, 0
        for at in range(300):
            living = ((1, 2), (1, 3, 5), (0, 2, 4, 6))[at % 3]
            program = drawn_program(draw, living, draw.randrange(1, 6), draw.randrange(8), (0.5, 0.8)[at % 2])
            if at % 5 == 0:
                program = drawn_ring(draw, living, draw.randrange(2, 6))
            reached, waits = plain_reached_and_waits(program)
            self.assertEqual(waiting(program), list(waits))
            lost += len(reached) < len(program)
            if is_safe(program):
                self.assertEqual(least_table(program), (reached, waits))
                self.assertIs(table_fault(program, least_table(program)), None)
                safe += len(waits) > 0
            else:
                self.check_raises(Unsafe(tuple(bad_walk(program))), least_table, program)
                self.assertEqual(table_fault(program, (reached, waits)), "clash")
        self.assertGreater(min(safe, lost), 30)

    def test_line_by_line(self):
        edges = [("a", "b", (2,)), ("b", "b", (1, 2)), ("b", "c", (1, 3)), ("d", "a", (1,))]
        unsafe = Program((1, 2, 3), ["a", "b", "c", "d"], edges)
        self.assertEqual(waiting(unsafe), [(1, 2, "c"), (2, 1, "b"), (2, 3, "b"), (3, 2, "c")])
        self.check_raises(Unsafe((0, 2)), least_table, unsafe)
        edges[2] = ("b", "c", (2, 3))
        safe = Program((1, 2, 3), ["a", "b", "c", "d"], edges)
        self.assertEqual(least_table(safe), (("a", "b", "c"), ((2, 1, "b"), (2, 1, "c"), (2, 3, "b"))))
        self.assertEqual(waiting(program=safe), [(2, 1, "b"), (2, 1, "c"), (2, 3, "b")])
        self.assertIs(type(least_table(program=safe)), tuple)

    def test_without_edges(self):
        self.assertEqual(least_table(Program((), ["b", "a"])), (("b",), ()))
        self.assertEqual(waiting(Program((1, 2), ["b", "a"], [("a", "b", (1,))])), [])
        self.assertEqual(least_table(Program((1,), ["b", "a"], [("b", "a", (1,))])), (("a", "b"), ()))

    def test_the_list_is_new(self):
        program = Program((1, 2), ["a"], [("a", "a", (2,))])
        waiting(program).clear()
        self.assertEqual(waiting(program), [(2, 1, "a")])

    def test_great_programs(self):
        keys, names = tuple(range(12)), [f"n{at}" for at in range(30)]
        edges = [(names[at], names[(at + 1) * (at < 29)], (at * (at < 12),)) for at in range(30)]
        program = Program(keys, names, edges)
        self.assertEqual(waiting(program), list(plain_reached_and_waits(program)[1]))
        self.assertGreater(len(waiting(program)), 300)


class TestFaults(PlainCase):
    def bent(self, draw, program, reached, waits):
        """Pairs like a table, each with an item left out, put in or exchanged."""
        for at in range(len(reached)):
            yield reached[:at] + reached[at + 1:], waits
        for at in range(len(waits)):
            yield reached, waits[:at] + waits[at + 1:]
        for node in program.nodes():
            yield tuple(sorted({*reached, node})), waits
            for k in program.living:
                for x in program.living:
                    if k != x:
                        yield reached, tuple(sorted({*waits, (k, x, node)}))
        for _ in range(5):
            kept = tuple(triple for triple in waits if draw.random() < 0.7)
            yield tuple(node for node in reached if draw.random() < 0.7), kept
            yield reached, kept

    def test_bent_tables(self):
        draw, seen = random.Random(40), {}
        for at in range(120):
            living = ((1, 2), (1, 3, 5), (0, 2, 4, 6))[at % 3]
            program = drawn_program(draw, living, draw.randrange(1, 5), draw.randrange(2, 8), (0.5, 0.8)[at % 2])
            reached, waits = plain_reached_and_waits(program)
            for table in self.bent(draw, program, reached, waits):
                wanted = plain_fault(program, *table)
                self.assertEqual(table_fault(program, table), wanted)
                if wanted is None:
                    self.assertTrue(is_safe(program))
                seen[wanted] = seen.get(wanted, 0) + 1
        for word in (None, "start", "edge", "begin", "stay", "clash"):
            self.assertGreater(seen[word], 30, seen)

    def test_left_out_of_the_least_table(self):
        draw, many = random.Random(41), 0
        for _ in range(100):
            program = drawn_program(draw, (1, 3, 5), 3, 5, 0.7)
            if not is_safe(program):
                continue
            reached, waits = least_table(program)
            for at in range(len(waits)):
                # What was left out begins or stays because of an edge, unless it stays only because of itself.
                fault = table_fault(program, (reached, waits[:at] + waits[at + 1:]))
                self.assertIn(fault, ("begin", "stay"))
                many += 1
            for at, node in enumerate(reached):
                wanted = "start" if node == program.start else "edge"
                self.assertEqual(table_fault(program, (reached[:at] + reached[at + 1:], waits)), wanted)
        self.assertGreater(many, 50)

    def test_tables_of_no_form(self):
        program = Program((1, 2, 3), ["a", "b"], [("a", "b", (2,)), ("b", "a", (2, 3))])
        reached, waits = least_table(program)
        self.assertEqual((reached, waits), (("a", "b"), ((2, 1, "a"), (2, 1, "b"), (2, 3, "b"))))
        for value in [*any_values(), (), (reached,), (reached, waits, ()), [reached, waits], (list(reached), waits),
                      (reached, list(waits)), (("b", "a"), waits), (("a", "a", "b"), waits), (reached, waits[::-1]),
                      (reached, (waits[0], *waits)), (waits, reached), (("a", "b", "c"), waits), (reached, None)]:
            self.assertEqual(table_fault(program, value), "form")
        for value in [*any_values(), "c", "A", ("a",)]:
            self.assertEqual(table_fault(program, (("a", value), waits)), "form")
            self.assertEqual(table_fault(program, (reached, (value,))), "form")
            if value != "a":
                self.assertEqual(table_fault(program, (reached, ((2, 1, value),))), "form")
        for value in any_values():
            self.assertEqual(table_fault(program, (reached, ((value, 1, "a"),))), "form")
            self.assertEqual(table_fault(program, (reached, ((2, value, "a"),))), "form")
        for triple in ((2, 2, "a"), (2, 4, "a"), (0, 2, "a"), (2, 1), (2, 1, "a", 0), [2, 1, "a"], (True, 2, "a"),
                       (2, True, "a"), ("2", 1, "a")):
            self.assertEqual(table_fault(program, (reached, (triple,))), "form")

    def test_each_word_ahead_of_those_behind_it(self):
        edges = [("a", "b", (2,)), ("b", "c", (1, 3)), ("c", "c", (3,)), ("c", "a", (1,))]
        program = Program((1, 2, 3), ["a", "b", "c"], edges)
        waits = plain_reached_and_waits(program)[1]
        # (3, 1, "c") begins to wait behind the edge from c to c, and clashes with the edge from c to a.
        less = tuple(triple for triple in waits if triple != (3, 1, "c"))
        self.assertEqual(table_fault(program, (("b", "c"), less[::-1])), "form")
        self.assertEqual(table_fault(program, (("b",), less)), "start")
        self.assertEqual(table_fault(program, (("a", "b"), less)), "edge")
        self.assertEqual(table_fault(program, (("a", "b", "c"), less)), "begin")
        self.assertEqual(table_fault(program, (("a", "b", "c"), waits)), "clash")
        calm = Program((1, 2, 3), ["a", "b"], [("a", "b", (2,)), ("b", "a", (3,)), ("b", "b", (1,))])
        rows = plain_reached_and_waits(calm)[1]
        self.assertIn((2, 1, "a"), rows)
        lacking = tuple(triple for triple in rows if triple != (2, 1, "a"))
        self.assertEqual(table_fault(calm, (("a", "b"), lacking)), "stay")
        self.assertEqual(table_fault(calm, (("a", "b"), rows)), "clash")
        self.assertEqual(table_fault(program=calm, table=(("a", "b"), rows)), "clash")

    def test_nodes_that_no_walk_reaches(self):
        edges = [("a", "a", (1, 2)), ("b", "a", (1,)), ("b", "b", (2,))]
        program = Program((1, 2), ["a", "b"], edges)
        self.assertEqual(least_table(program), (("a",), ()))
        # An edge from a node that is not reached begins nothing, but what waits there clashes and stays.
        self.assertIs(table_fault(program, (("a",), ())), None)
        self.assertEqual(table_fault(program, (("a", "b"), ())), "begin")
        self.assertEqual(table_fault(program, (("a",), ((1, 2, "b"),))), "clash")
        self.assertIs(table_fault(program, (("a",), ((2, 1, "a"),))), None)


if __name__ == "__main__":
    import unittest
    unittest.main()
