"""Promise [54], and the heading lookers.py."""

import random

from shapebetween.badwalks import is_safe
from shapebetween.forms import Form
from shapebetween.gates import gates_fault, gates_of
from shapebetween.lookers import Looker
from shapebetween.pricepapers import price_fault, price_paper
from shapebetween.programs import Program
from shapebetween.rows import Row
from shapebetween.runs import Runs, run_fault
from shapebetween.scripts import Script
from shapebetween.shapes import Shape
from shapebetween.surroundings import fits_between, parting_surroundings
from shapebetween.tables import least_table, table_fault
from shapebetween.tornlogs import TornLog
from shapebetween.tornpapers import torn_fault, torn_paper
from tests.drawn import drawn_script, feasible_script
from tests.plain import PlainCase, any_values
from tests.test_lazy import marked_scripts
from tests.test_programs import drawn_program

BARRED = Script((1, 2, 3), [(2,), (1,), (3,)])
SCRIPT = Script((1, 2), [(1, 2), Row((1, 2, 3), coming=3)])
SHAPES = tuple(Runs(SCRIPT).run_at(5))
PROGRAM = Program((1, 2), ["a", "b"], [("a", "b", (2,)), ("b", "a", (1, 2))])
LOG = TornLog((1, 2), ["#.", ".#"])
FORMS = (Form(Script((1, 2), [(1,)])), Form(Script((1, 2), [(2,)])))
AROUND = parting_surroundings(*FORMS)


def right_papers():
    """A paper of each kind that holds."""
    return [
        ("run", SCRIPT, SHAPES), ("crosswise", BARRED, (0, 1, 2, 1)), ("table", PROGRAM, least_table(PROGRAM)),
        ("price", BARRED, 1, price_paper(BARRED, 1)), ("torn", LOG, torn_paper(LOG)),
        ("gates", BARRED, tuple(gates_of(BARRED))), ("parting", *FORMS, *AROUND),
    ]


class LookCase(PlainCase):
    def check_fault(self, fault, *papers):
        for paper in papers:
            self.assertEqual(Looker().look(paper), fault, repr(paper)[:200])


class TestPapers(LookCase):
    def test_right_papers(self):
        self.check_fault(None, *right_papers())

    def test_values_that_are_no_papers(self):
        self.check_fault("form", *any_values(), (), ("run",), ("paper", 1, 2), ("", SCRIPT, SHAPES), (None, SCRIPT, SHAPES))
        for paper in right_papers():
            word, *values = paper
            self.check_fault("form", list(paper), paper[:-1], (*paper, None), tuple(values), (word.upper(), *values),
                             ([word], *values), ((word,), *values), (True, *values), (paper,), ({word: 1}, *values))
            for at in range(1, len(paper)):
                for value in any_values():
                    # Another script, form, program or log may have any fault.
                    if type(value) is not type(paper[at]) or isinstance(value, (tuple, int)):
                        self.check_fault("form", (*paper[:at], value, *paper[at + 1:]))

    def test_runs(self):
        begin = (Shape(1, 3), *SHAPES[1:])
        self.check_fault("form", ("run", SCRIPT, list(SHAPES)), ("run", SCRIPT, SHAPES[:2]), ("run", SCRIPT, ()),
                         ("run", SCRIPT, (*SHAPES, SHAPES[-1])), ("run", SCRIPT, (*SHAPES[:2], None)),
                         ("run", SCRIPT, (begin[0], None, SHAPES[2])), ("run", SHAPES, SCRIPT))
        self.check_fault("begin", ("run", SCRIPT, begin), ("run", SCRIPT, (Shape(), *SHAPES[1:])),
                         ("run", SCRIPT, (SHAPES[2], SHAPES[2], SHAPES[2])))
        self.check_fault("step", ("run", SCRIPT, (SHAPES[0], SHAPES[2], SHAPES[2])), ("run", SCRIPT, (*SHAPES[:2], SHAPES[1])))
        draw, seen = random.Random(54), {}
        for _ in range(40):
            script = feasible_script(draw, (1, 3, 5), 3)
            shapes = Runs(script).run_at(draw.randrange(Runs(script).total))
            for at in range(4):
                bent = tuple([*shapes[:at], draw.choice(shapes), *shapes[at + 1:]])
                fault = run_fault(script, bent)
                self.check_fault(fault, ("run", script, bent))
                seen[fault] = seen.get(fault, 0) + 1
        self.assertGreater(min(seen.values()), 10, seen)
        self.assertEqual(set(seen), {None, "begin", "step"})

    def test_crosswise(self):
        draw, seen = random.Random(55), {None: 0, "clash": 0}
        for _ in range(40):
            script = drawn_script(draw, (1, 3, 5), 5)
            drawn = [(draw.randrange(5), draw.randrange(5), draw.choice((1, 3, 5)), draw.choice((1, 3, 5)))
                     for _ in range(20)]
            for clash in [*drawn, *script.all_crosswise()]:
                wanted = None if clash in script.all_crosswise() else "clash"
                self.check_fault(wanted, ("crosswise", script, clash))
                seen[wanted] += 1
        self.assertGreater(min(seen.values()), 10, seen)
        self.check_fault("form", *[("crosswise", BARRED, clash) for clash in [
            [0, 1, 2, 1], (0, 1, 2), (0, 1, 2, 1, 0), (0, 1, 2, "1"), (0, True, 2, 1), (False, 1, 2, 1), ((0, 1, 2, 1),)]])
        self.check_fault("clash", ("crosswise", BARRED, (1, 0, 1, 2)), ("crosswise", BARRED, (0, 1, 1, 2)),
                         ("crosswise", BARRED, (-1, 10 ** 39, 2, 1)), ("crosswise", Script(()), (0, 1, 2, 1)))

    def test_tables(self):
        draw, seen = random.Random(56), set()
        for _ in range(80):
            program = drawn_program(draw, (1, 3, 5), 3, 5, 0.8)
            table = least_table(program) if is_safe(program) else (("n0", "n1", "n2"), ())
            for bent in (table, (table[0], table[1][1:]), (table[0][1:], table[1]), (table[0][:-1], table[1]),
                         (table[0], tuple(sorted({*table[1], (1, 3, "n1")})))):
                fault = table_fault(program, bent)
                self.check_fault(fault, ("table", program, bent))
                seen.add(fault)
        self.assertEqual(seen, {None, "start", "edge", "begin", "stay", "clash"})

    def test_prices(self):
        paper = price_paper(BARRED, 1)
        self.check_fault("root", ("price", BARRED, 1, ()), ("price", BARRED, 5, ()))
        self.check_fault("clash", ("price", BARRED, 1, (((), (0, 1, 1, 2)),)))
        self.check_fault("branch", ("price", BARRED, 1, paper[:1]), ("price", BARRED, 2, paper))
        self.check_fault("form", ("price", BARRED, 0, paper))
        for most in (-1, 6, True, 10 ** 39, None, "1"):
            self.check_fault("form", ("price", BARRED, most, ()))
        for wishes, _ in marked_scripts():
            self.check_fault("form", ("price", wishes, 1, ()))
        keys = (1, 2, 3, 4, 5, 6)
        self.check_fault("form", ("price", Script(keys), 1, ()), ("price", Script((1,), [(1,)] * 7), 1, ()))
        self.check_fault("root", ("price", Script(keys[:5], [(1,)] * 6), 1, ()), ("price", Script(()), 0, ()))
        self.assertEqual(price_fault(BARRED, 2, paper), "branch")

    def test_torn_papers(self):
        split = (((), ("split", 0, 1)),)
        self.check_fault("form", ("torn", LOG, [*torn_paper(LOG)]), ("torn", LOG.rows(), torn_paper(LOG)))
        self.check_fault("root", ("torn", LOG, ()))
        self.check_fault("blank", ("torn", LOG, (((), ("blank", 0)),)))
        self.check_fault("clash", ("torn", LOG, (((), ("clash", 0, 1, 2, 1)),)))
        self.check_fault("split", ("torn", LOG, split))
        self.assertEqual(torn_fault(LOG, split), "split")

    def test_gates(self):
        gates = tuple(gates_of(BARRED))
        self.check_fault("form", ("gates", BARRED, list(gates)), ("gates", BARRED, (gates[0][:4],)))
        self.check_fault("gate", ("gates", BARRED, ((*gates[0][:4], 3),)))
        self.check_fault("apart", ("gates", BARRED, (gates[0], gates[0])))
        self.assertEqual(gates_fault(BARRED, (gates[0], gates[0])), "apart")
        self.check_fault(None, ("gates", BARRED, ()))
        for wishes, _ in marked_scripts():
            self.check_fault("form", ("gates", wishes, ()))


class TestParting(LookCase):
    def test_drawn_forms(self):
        draw, seen = random.Random(57), {None: 0, "alike": 0}
        for _ in range(80):
            one = Form(drawn_script(draw, (1, 3, 5), draw.randrange(4), marks=False))
            other = Form(drawn_script(draw, (1, 3, 5), draw.randrange(4), marks=False))
            ahead = feasible_script(draw, (1, 3, 5), draw.randrange(3), marks=False)
            behind = feasible_script(draw, (1, 3, 5), draw.randrange(3), marks=False)
            fits = [fits_between(ahead.past, form, behind.future) for form in (one, other)]
            wanted = "alike" if fits[0] == fits[1] else None
            self.check_fault(wanted, ("parting", one, other, ahead, behind), ("parting", other, one, ahead, behind))
            seen[wanted] += 1
            if one != other:
                self.check_fault(None, ("parting", one, other, *parting_surroundings(one, other)))
            self.check_fault("alike", ("parting", one, one, ahead, behind))
        self.assertGreater(min(seen.values()), 10, seen)

    def test_other_keys(self):
        one, other = FORMS
        ahead, behind = AROUND
        three = Script((1, 2, 3))
        self.check_fault("form", ("parting", Form(three), other, ahead, behind), ("parting", one, Form(three), ahead, behind),
                         ("parting", one, other, three, behind), ("parting", one, other, ahead, three),
                         ("parting", Form(three), Form(three), ahead, behind),
                         ("parting", one, other, three, three), ("parting", ahead, behind, one, other))
        barred = Script((1, 2), [(1,), (2,)])
        self.check_fault("form", ("parting", one, other, barred, behind), ("parting", one, other, ahead, barred))
        self.check_fault("alike", ("parting", Form(barred), Form(barred), ahead, behind))

    def test_keys_may_come_ahead_and_go_behind(self):
        coming = Script((1,), [Row((1, 2), coming=2)])
        going = Script((1, 2), [(1,), Row((1, 2), going=1)])
        self.assertEqual((coming.end, going.end), ((1, 2), (2,)))
        one, other = Form(Script((1, 2), [(1, 2)])), Form(Script((1, 2), [(2,)]))
        self.check_fault(None, ("parting", one, other, coming, going))
        self.check_fault("alike", ("parting", one, one, coming, going))
        self.check_fault("form", ("parting", one, other, going, coming), ("parting", one, other, going, going),
                         ("parting", one, other, coming, coming))


class TestCounts(PlainCase):
    def check_looker(self, looker, held, refused, faults):
        self.assertEqual((looker.held, looker.refused, looker.faults()), (held, refused, faults))
        self.assertEqual((len(looker), bool(looker)), (held + refused, True))
        self.assertEqual(repr(looker), f"Looker({held} held, {refused} refused)")

    def test_two_lookers_side_by_side(self):
        one, other = Looker(), Looker()
        self.check_looker(one, 0, 0, {})
        self.assertIs(one.look(paper=right_papers()[0]), None)
        self.assertEqual(one.look(None), "form")
        self.check_looker(one, 1, 1, {"form": 1})
        self.check_looker(other, 0, 0, {})
        self.assertEqual(other.look(("torn", LOG, ())), "root")
        self.check_looker(other, 0, 1, {"root": 1})
        told = one.look_all(("torn", LOG, ()), 7, *right_papers(), ("price", BARRED, 1, ()), ("gates", BARRED, 7))
        self.assertEqual(told, ["root", "form", *[None] * 7, "root", "form"])
        self.check_looker(one, 8, 5, {"form": 3, "root": 2})
        self.assertEqual(one.look_all(), [])
        self.check_looker(one, 8, 5, {"form": 3, "root": 2})
        self.check_looker(other, 0, 1, {"root": 1})
        for number in range(500):
            one.look(number)
        self.check_looker(one, 8, 505, {"form": 503, "root": 2})

    def test_what_is_told_is_new(self):
        looker = Looker()
        looker.look_all(None, right_papers()[1]).clear()
        looker.faults()["form"] = 7
        looker.faults().clear()
        self.check_looker(looker, 1, 1, {"form": 1})


if __name__ == "__main__":
    import unittest
    unittest.main()
