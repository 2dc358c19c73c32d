"""Promises [38] and [20] for safe programs, the bad walk and the bad pair, and the heading badwalks.py."""

import random

from shapebetween.badwalks import bad_pair, bad_walk, is_safe
from shapebetween.follow import can_follow, past_behind_row
from shapebetween.programs import Program
from shapebetween.weaktrees import WeakTree
from tests.drawn import drawn_lot
from tests.plain import PlainCase
from tests.test_programs import drawn_program


def plain_bad_walk(program):
    """The first bad walk by rising length, then as a list: a look at all pairs of a node and a past tree."""
    edges = program.edges()
    layer = [([], program.start, WeakTree.level(program.living))]
    seen = {(program.start, layer[0][2].text())}
    while layer:
        longer = []
        for walk, node, tree in layer:
            for index, (source, target, lot) in enumerate(edges):
                if source != node:
                    continue
                if not can_follow(tree, lot):
                    # The walks of a layer are ascending, so the first one that is found is the least.
                    return walk + [index]
                longer.append((walk + [index], target, past_behind_row(tree, lot)))
        layer = []
        for walk, node, tree in longer:
            if (node, tree.text()) not in seen:
                seen.add((node, tree.text()))
                layer.append((walk, node, tree))
    return None


def drawn_ring(draw, living, size):
    """A drawn program with a ring of nodes, and two edges more."""
    names = [f"n{at}" for at in range(size)]
    edges = [(name, names[at + 1 - size], drawn_lot(draw, living, 0.8)) for at, name in enumerate(names)]
    more = [(draw.choice(names), draw.choice(names), drawn_lot(draw, living)) for _ in range(2)]
    for edge in more:
        if edge not in edges:
            edges.append(edge)
    return Program(living, names, edges)


def all_walks(program, length):
    """All walks of a length, ascending."""
    walks = [([], program.start)]
    for _ in range(length):
        walks = [(walk + [index], program.edges()[index][1]) for walk, node in walks
                 for index in program.leaving(node)]
    return [walk for walk, _ in walks]


class TestBadWalks(PlainCase):
    def check_program(self, program):
        wanted = plain_bad_walk(program)
        self.assertEqual(bad_walk(program), wanted)
        self.assertIs(is_safe(program), wanted is None)
        if wanted is None:
            self.assertIs(bad_pair(program), None)
        else:
            self.assertEqual(bad_pair(program), program.script_of(wanted).first_crosswise())
            self.assertIs(type(bad_walk(program)), list)
        return wanted

    def test_drawn_programs(self):
        draw, lengths = random.Random(38), {}
        for at in range(600):
            living = ((1, 2), (1, 3, 5), (0, 2, 4, 6))[at % 3]
            program = drawn_program(draw, living, draw.randrange(1, 7), draw.randrange(12), (0.5, 0.75, 0.9)[at % 7 % 3])
            if at % 2:
                program = drawn_ring(draw, living, draw.randrange(2, 7))
            walk = self.check_program(program)
            size = None if walk is None else len(walk)
            lengths[size] = lengths.get(size, 0) + 1
        for size in (None, 2, 3, 4, 5):
            self.assertGreater(lengths.get(size, 0), 5, lengths)

    def test_all_walks_of_a_length(self):
        draw, many = random.Random(39), 0
        for _ in range(80):
            program = drawn_program(draw, (1, 3, 5), 3, 5, 0.75)
            walk = bad_walk(program)
            for length in range(5 if walk is None else len(walk) + 1):
                bad = [other for other in all_walks(program, length) if not program.script_of(other).feasible]
                if walk is not None and length == len(walk):
                    self.assertEqual(bad[0], walk)
                    many += 1
                else:
                    self.assertEqual(bad, [])
        self.assertGreater(many, 20)

    def test_rings(self):
        nodes = ["a", "b", "c", "d"]
        edges = [("a", "b", (1, 2, 3)), ("b", "c", (2,)), ("c", "a", (2,)), ("c", "d", (1, 2)), ("d", "a", (2, 3))]
        self.assertIs(self.check_program(Program((1, 2, 3), nodes, edges)), None)
        # 1 alone is touched behind 1 2, and then 2 3 without 1.
        worse = Program((1, 2, 3), nodes, edges + [("d", "d", (1,))])
        self.assertEqual(self.check_program(worse), [0, 1, 3, 5, 4])
        self.assertEqual(bad_pair(worse), (3, 4, 1, 2))
        names = [f"n{at}" for at in range(7)]
        ring = [(names[at], names[at + 1], (1, 2)) for at in range(6)] + [("n6", "n0", (1, 2))]
        self.assertIs(self.check_program(Program((1, 2), names, ring)), None)
        # At n2 a ring of one edge touches 2 alone, and only then 1 alone is touched.
        calm = ring[:2] + [("n2", "n3", (1,))] + ring[3:] + [("n2", "n2", (2,))]
        self.assertEqual(self.check_program(Program((1, 2), names, calm)), [0, 1, 7, 2])

    def test_once_round_a_ring(self):
        # 9 is touched all the way, so 0 waits for 5 until the ring comes back to the node with both edges.
        names = [f"n{at}" for at in range(30)]
        edges = [(names[at], names[at + 1], (9,)) for at in range(29)]
        edges = edges + [("n29", "n0", (0, 9)), ("n29", "n0", (5, 9))]
        program = Program((0, 5, 9), names, edges)
        self.assertEqual(self.check_program(program), [*range(29), 29, *range(29), 30])
        self.assertEqual(bad_pair(program), (29, 59, 0, 5))
        turned = Program((0, 5, 9), names, edges[:29] + edges[29:][::-1])
        self.assertEqual(self.check_program(turned), [*range(29), 29, *range(29), 30])
        self.assertEqual(bad_pair(turned), (29, 59, 5, 0))
        self.assertIs(self.check_program(Program((0, 5, 9), names, edges[:30])), None)

    def test_the_least_of_the_shortest(self):
        nodes = ["s", "a", "b", "c"]
        edges = [("a", "c", (1,)), ("b", "c", (2,)), ("s", "b", (1,)), ("s", "a", (2,)), ("s", "a", (1, 2))]
        self.assertEqual(self.check_program(Program((1, 2), nodes, edges)), [2, 1])
        turned = [edges[0], edges[1], edges[3], edges[2], edges[4]]
        self.assertEqual(self.check_program(Program((1, 2), nodes, turned)), [2, 0])
        self.assertEqual(bad_pair(Program((1, 2), nodes, turned)), (0, 1, 2, 1))

    def test_without_edges(self):
        self.assertIs(self.check_program(Program((), ["a"])), None)
        self.assertIs(self.check_program(Program((1, 2), ["a", "b"], [("b", "b", (1,)), ("b", "b", (2,))])), None)
        self.assertIs(is_safe(program=Program((1,), ["a"], [("a", "a", (1,))])), True)
        self.assertEqual(bad_walk(program=Program((1, 2), ["a"], [("a", "a", (2,)), ("a", "a", (1,))])), [0, 1])
        self.assertEqual(bad_pair(program=Program((1, 2), ["a"], [("a", "a", (2,)), ("a", "a", (1,))])), (0, 1, 2, 1))

    def test_many_keys_and_edges(self):
        # Twelve keys have millions of past trees; the walk is found all the same.
        keys, names = tuple(range(12)), [f"n{at}" for at in range(30)]
        draw = random.Random(40)
        edges = [(names[at], names[(at + 1) * (at < 29)], keys) for at in range(30)]
        edges += [(names[at], names[draw.randrange(30)], tuple(key for key in keys if key != at - at // 12 * 12))
                  for at in range(29)]
        safe = Program(keys, names, edges[:30])
        self.assertEqual((is_safe(safe), bad_walk(safe)), (True, None))
        program = Program(keys, names, edges)
        walk = bad_walk(program)
        self.assertIs(program.script_of(walk).feasible, False)
        self.assertIs(program.script_of(walk[:-1]).feasible, True)

    def test_the_list_is_new(self):
        program = Program((1, 2), ["a"], [("a", "a", (2,)), ("a", "a", (1,))])
        bad_walk(program).clear()
        self.assertEqual(bad_walk(program), [0, 1])


if __name__ == "__main__":
    import unittest
    unittest.main()
