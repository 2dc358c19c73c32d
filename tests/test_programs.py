"""Promise [38], and the heading programs.py."""

import random

from shapebetween.errors import (DuplicateName, InvalidEdge, InvalidLot, InvalidName, InvalidNodes, InvalidWalk,
                                 TooMany, UnknownKey, UnknownName)
from shapebetween.programs import Program
from shapebetween.scripts import Script
from tests.drawn import drawn_lot
from tests.plain import PlainCase, any_values


def drawn_program(draw, living, nodes, edges, share=0.5):
    """A drawn program whose edges are all different."""
    names = [f"n{at}" for at in range(nodes)]
    found = []
    for _ in range(4 * edges):
        edge = (draw.choice(names), draw.choice(names), drawn_lot(draw, living, share))
        if edge not in found and len(found) < edges:
            found.append(edge)
    return Program(living, names, found)


class TestPrograms(PlainCase):
    def test_drawn_walks(self):
        draw, many = random.Random(38), 0
        for _ in range(60):
            program = drawn_program(draw, (1, 4, 6), draw.randrange(1, 5), draw.randrange(8))
            edges = program.edges()
            for node in program.nodes():
                leaving = [at for at, edge in enumerate(edges) if edge[0] == node]
                self.assertEqual(program.leaving(node), leaving)
            walk, node = [], program.start
            for at in range(6):
                for wrong in range(-1, len(edges) + 1):
                    if wrong not in program.leaving(node):
                        self.check_raises(InvalidWalk(at), program.end_of, [*walk, wrong, None])
                        self.check_raises(InvalidWalk(at), program.script_of, (*walk, wrong, -1))
                if not program.leaving(node):
                    break
                walk.append(draw.choice(program.leaving(node)))
                node = edges[walk[-1]][1]
                self.assertEqual(program.end_of(walk), node)
                self.assertEqual(program.end_of(tuple(walk)), node)
                self.assertEqual(program.script_of(walk), Script((1, 4, 6), [edges[index][2] for index in walk]))
                many += 1
        self.assertGreater(many, 60)

    def test_what_is_told(self):
        edges = [("b", "a", (1,)), ("b", "b", (1, 2)), ("a", "b", (2,)), ("b", "a", (1, 2))]
        program = Program((1, 2), ["b", "a", "c"], edges)
        self.assertEqual((program.living, program.start), ((1, 2), "b"))
        self.assertEqual((program.nodes(), program.edges(), len(program)), (["b", "a", "c"], edges, 3))
        self.assertEqual((bool(program), repr(program)), (True, "Program(3 nodes, 4 edges)"))
        self.assertEqual((program.leaving("b"), program.leaving(node="a"), program.leaving("c")), ([0, 1, 3], [2], []))
        self.assertEqual((program.end_of([]), program.script_of([])), ("b", Script((1, 2))))
        self.assertEqual(program.end_of(walk=[1, 1, 3, 2]), "b")
        self.assertEqual(program.script_of(walk=(0, 2)), Script((1, 2), [(1,), (2,)]))
        self.assertEqual(repr(Program((), ("a",))), "Program(1 nodes, 0 edges)")
        self.assertEqual(Program(living=(), nodes=("a",), edges=()), Program((), ["a"]))

    def test_walks_of_any_length(self):
        program = Program((1, 2), ["a"], [("a", "a", (1, 2))])
        self.assertEqual(program.end_of([0] * 400), "a")
        self.check_raises(TooMany("moments", 61), program.script_of, [0] * 61)
        self.check_raises(InvalidWalk(100), program.script_of, [0] * 100 + [1])
        self.assertEqual(len(program.script_of([0] * 60)), 60)

    def test_wrong_walks_and_nodes(self):
        program = Program((1, 2), ["a", "b"], [("a", "b", (1,)), ("b", "a", (2,))])
        for value in any_values():
            if not isinstance(value, (list, tuple)):
                self.check_raises(InvalidWalk(-1), program.end_of, value)
                self.check_raises(InvalidWalk(-1), program.script_of, value)
            self.check_raises(InvalidWalk(1), program.end_of, [0, value, 0])
            self.check_raises(InvalidWalk(1), program.script_of, [0, value, 0])
            if value != "a":
                self.check_raises(UnknownName(value), program.leaving, value)
        self.check_raises(InvalidWalk(0), program.end_of, [False])
        self.check_raises(InvalidWalk(1), program.end_of, [0, True])
        self.check_raises(InvalidWalk(0), program.end_of, [1])
        self.check_raises(InvalidWalk(0), program.end_of, [-2])
        self.check_raises(UnknownName("c"), program.leaving, "c")

    def test_equality(self):
        edges = [("a", "b", (1,)), ("b", "a", (2,))]
        program = Program((1, 2), ["a", "b"], edges)
        self.assertEqual(program, Program((1, 2), ("a", "b"), tuple(edges)))
        others = [Program((1, 2, 3), ["a", "b"], edges), Program((1, 2), ["b", "a"], edges), None, edges,
                  Program((1, 2), ["a", "b"], edges[::-1]), Program((1, 2), ["a", "b", "c"], edges),
                  Program((1, 2), ["a", "b"], edges[:1])]
        for other in others:
            self.assertFalse(program == other)

    def test_lists_may_be_changed(self):
        nodes, edges = ["a", "b"], [("a", "b", (1,))]
        program = Program((1, 2), nodes, edges)
        nodes.append("c")
        edges.append(None)
        for told in (program.nodes(), program.edges(), program.leaving("a")):
            told.clear()
        self.assertEqual((program.nodes(), program.edges(), program.leaving("a")), (["a", "b"], [("a", "b", (1,))], [0]))


class TestConstructor(PlainCase):
    def test_living(self):
        for value in any_values():
            if value != ():
                self.check_raises(InvalidLot(value), Program, value, None, None)
        self.check_raises(TooMany("keys", 13), Program, tuple(range(13)), None)
        self.assertEqual(Program(tuple(range(12)), ["a"]).living, tuple(range(12)))

    def test_nodes(self):
        for value in [*any_values(), (), []]:
            if not isinstance(value, (list, tuple)) or not value:
                self.check_raises(InvalidNodes(), Program, (1,), value, None)
        for value in [*any_values(), "A", "1a", "abcdefghijklm", ("a",)]:
            if value != "a":
                self.check_raises(InvalidName(value), Program, (1,), ["a", "a", value, None], None)
        self.check_raises(DuplicateName("b"), Program, (1,), ["a", "b", "b", "a"], None)
        self.check_raises(DuplicateName("a"), Program, (1,), ["a", "b", "a", "b"], None)
        names = [f"n{at}" for at in range(400)]
        self.check_raises(DuplicateName("n0"), Program, (1,), names[:399] + ["n0"], None)
        self.check_raises(TooMany("nodes", 400), Program, (1,), names, None)
        self.check_raises(TooMany("nodes", 31), Program, (1,), names[:31], None)
        self.assertEqual(len(Program((1,), names[:30])), 30)

    def test_edges(self):
        for value in any_values():
            if not isinstance(value, (list, tuple)):
                self.check_raises(InvalidEdge(-1), Program, (1,), ["a"], value)
        good = [("a", f"n{at}", (1,)) for at in range(20)]
        wrong = [*any_values(), ("a", "a"), ("a", "a", ()), ("a", "a", [1]), ["a", "a", (1,)], ("a", "a", (1,), 1),
                 ("a", "A", (1,)), ("A", "a", (1,)), ("a", None, (1,)), ("a", "a", (True,)), ("a", "a", (2, 1)), ()]
        for value in wrong:
            self.check_raises(InvalidEdge(2), Program, (1,), ["a", "n0", "n1"], [*good[:2], value, None])
        self.check_raises(TooMany("edges", 61), Program, (1,), ["a"], [None] * 61)

    def test_edges_one_by_one(self):
        nodes = ["a", "b"]
        self.check_raises(UnknownName("c"), Program, (1,), nodes, [("a", "b", (1,)), ("c", "d", (2,)), None])
        self.check_raises(UnknownName("d"), Program, (1,), nodes, [("a", "d", (2,))])
        self.check_raises(UnknownKey(2), Program, (1,), nodes, [("a", "b", (1, 2, 3)), ("c", "a", (1,))])
        self.check_raises(InvalidEdge(2), Program, (1,), nodes, [("a", "b", (1,)), ("b", "a", (1,)), ("a", "b", (1,)),
                                                                 ("a", "c", (1,))])
        self.check_raises(UnknownName("c"), Program, (1,), nodes, [("a", "b", (1,)), ("a", "c", (1,)), ("a", "b", (1,))])
        names = [f"n{at}" for at in range(30)]
        edges = [(one, other, (1,)) for one in names for other in names][:60]
        self.assertEqual(len(Program((1,), names, edges).edges()), 60)
        self.check_raises(TooMany("edges", 61), Program, (1,), names, [*edges, edges[0]])
        self.check_raises(InvalidEdge(59), Program, (1,), names, [*edges[:59], edges[7]])


if __name__ == "__main__":
    import unittest
    unittest.main()
