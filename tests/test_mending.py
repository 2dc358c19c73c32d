"""Promise [42], and the heading mending.py."""

import random

from shapebetween.badwalks import is_safe
from shapebetween.errors import TooMany
from shapebetween.mending import mended
from shapebetween.programs import Program
from shapebetween.weaktrees import WeakTree
from tests.drawn import past_of_lots
from tests.plain import PlainCase, lots_of, plainly_closed, weak_needs, weak_numbers
from tests.test_badwalks import drawn_ring
from tests.test_programs import drawn_program


def plainly_around(tree, lot):
    """The least closed lot: keys that are needed are put in until none is missing."""
    while not plainly_closed(tree, lot):
        needed = {key for one in lot for key in weak_needs(tree.living, weak_numbers(tree), one)}
        lot = tuple(sorted({*lot, *needed}))
    return lot


def plain_mended(program):
    """The pairs in their order, and the edges as they are found, each once."""
    found = [(program.start, [])]
    known = [(program.start, WeakTree.level(program.living))]
    edges = []
    for at, (node, lots) in enumerate(found):
        for source, target, lot in program.edges():
            if source != node:
                continue
            wide = plainly_around(past_of_lots(program.living, lots), lot)
            pair = (target, past_of_lots(program.living, [*lots, wide]))
            if pair not in known:
                known.append(pair)
                found.append((target, [*lots, wide]))
            edge = (f"m{at}", f"m{known.index(pair)}", wide)
            if edge not in edges:
                edges.append(edge)
    return known, edges


def level_chain(keys, begin, nodes):
    """Edges that touch all keys, from the node begin on, one for each node of a list."""
    return [(one, other, keys) for one, other in zip([begin, *nodes], nodes)]


class TestMended(PlainCase):
    def check_program(self, program):
        """The counts of nodes and of edges, if they are within the limits."""
        pairs, edges = plain_mended(program)
        if len(pairs) > 30:
            self.check_raises(TooMany("nodes", 31), mended, program)
            return "nodes"
        if len(edges) > 60:
            self.check_raises(TooMany("edges", len(edges)), mended, program)
            return "edges"
        made, listed = mended(program)
        self.assertEqual(listed, pairs)
        self.assertEqual(made.living, program.living)
        self.assertEqual(made.nodes(), [f"m{at}" for at in range(len(pairs))])
        self.assertEqual(made.edges(), edges)
        self.assertTrue(is_safe(made))
        return "made"

    def test_drawn_programs(self):
        draw, seen = random.Random(42), {}
        for at in range(240):
            living = ((1, 2), (1, 3, 5), (0, 2, 4, 6))[at % 3]
            program = drawn_program(draw, living, draw.randrange(1, 5), draw.randrange(9), (0.4, 0.7)[at % 2])
            if at % 4 == 0:
                program = drawn_ring(draw, living, draw.randrange(2, 6))
            word = self.check_program(program)
            seen[word] = seen.get(word, 0) + 1
        self.assertTrue(seen["made"] > 100 and seen["edges"] > 3, seen)

    def test_line_by_line(self):
        # From c both edges touch 1 2 where 2 was touched last, so one of them is left out.
        edges = [("a", "b", (2,)), ("b", "c", (2,)), ("c", "a", (1,)), ("c", "a", (1, 2))]
        made, pairs = mended(program=Program((1, 2), ["a", "b", "c", "d"], edges))
        self.assertEqual(made, Program((1, 2), ["m0", "m1", "m2"], [("m0", "m1", (2,)), ("m1", "m2", (2,)),
                                                                    ("m2", "m0", (1, 2))]))
        self.assertEqual([(node, tree.text()) for node, tree in pairs], [("a", "1 2"), ("b", "[1] 2"), ("c", "[1] 2")])
        self.assertEqual((type(mended(made)), type(pairs)), (tuple, list))
        self.assertEqual(mended(Program((), ["b", "a"])), (Program((), ["m0"]), [("b", WeakTree.level(()))]))

    def test_safe_programs_keep_their_lots(self):
        program = Program((1, 2), ["a", "b"], [("a", "b", (1, 2)), ("b", "a", (1, 2))])
        self.assertEqual(mended(program)[0].edges(), [("m0", "m1", (1, 2)), ("m1", "m0", (1, 2))])

    def test_nodes_at_the_limit(self):
        names = [f"n{at}" for at in range(30)]
        loops = [("n0", "n0", (1,)), ("n0", "n0", (2,))]
        # The first node makes three pairs, each further one makes one more.
        for nodes, word in ((28, "made"), (29, "nodes"), (30, "nodes")):
            program = Program((1, 2), names[:nodes], loops + level_chain((1, 2), "n0", names[1:nodes]))
            self.assertEqual(len(plain_mended(program)[0]), nodes + 2)
            self.assertEqual(self.check_program(program), word)
        keys = tuple(range(12))
        far = Program(keys, ["a"], [("a", "a", lot) for lot in lots_of(keys)[:60]])
        self.check_raises(TooMany("nodes", 31), mended, far)

    def test_edges_at_the_limit(self):
        keys, names = (1, 2, 3), [f"n{at}" for at in range(6)]
        loops = [("a", "a", lot) for lot in lots_of(keys)]
        # Eleven past trees have 45 closed lots; from each of them an edge leads to the first node of the chain.
        for more, word in ((0, "made"), (1, "made"), (5, "made"), (6, "edges")):
            program = Program(keys, ["a", *names[:more]], loops + level_chain(keys, "a", names[:more]))
            self.assertEqual(len(plain_mended(program)[1]), 45 + (more > 0) * (10 + more))
            self.assertEqual(self.check_program(program), word)
        both = Program(keys, ["a", "b"], [(one, other, lot) for one in "ab" for other in "ab" for lot in lots_of(keys)])
        self.assertEqual(self.check_program(both), "edges")
        # 31 pairs go ahead of 61 edges.
        more = Program(keys, ["a", "b", "c"], [(one, other, lot) for one, other in ("ab", "bc", "ca") for lot in lots_of(keys)])
        self.assertEqual(self.check_program(more), "nodes")

    def test_the_list_is_new(self):
        program = Program((1, 2), ["a"], [("a", "a", (2,))])
        mended(program)[1].clear()
        self.assertEqual(len(mended(program)[1]), 2)


if __name__ == "__main__":
    import unittest
    unittest.main()
