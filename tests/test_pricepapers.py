"""Promise [48], and the heading pricepapers.py."""

import random

from shapebetween.errors import Affordable, Comes, InvalidNumber, TooMany
from shapebetween.pricepapers import price_fault, price_paper
from shapebetween.prices import price
from shapebetween.rows import Row
from shapebetween.scripts import Script
from tests.drawn import plain_crosswise
from tests.plain import PlainCase, any_values, no_numbers
from tests.test_lazy import marked_scripts
from tests.test_prices import HARD, added_to, plain_cheapest, small_wishes, untouched_cells

BARRED = Script((1, 2, 3), [(2,), (1,), (3,), (2,)])


def crosswise_with(wishes, cells):
    return plain_crosswise(wishes.living, added_to(wishes, cells).rows())


def plain_box(wishes, clash):
    i, j, k, x = clash
    return [cell for cell in untouched_cells(wishes) if i <= cell[0] <= j and min(k, x) <= cell[1] <= max(k, x)]


def plain_paper(wishes, most):
    """The least paper, entry by entry, as it is told."""
    entries, ahead = {}, [()]
    while ahead:
        cells = ahead.pop()
        if cells in entries:
            continue
        entries[cells] = crosswise_with(wishes, cells)[0]
        if len(cells) < most:
            ahead += [tuple(sorted({*cells, cell})) for cell in plain_box(wishes, entries[cells]) if cell not in cells]
    return tuple((cells, entries[cells]) for cells in sorted(entries, key=lambda cells: (len(cells), cells)))


def plain_fault(wishes, most, paper):
    """The first word behind `form` that applies to a paper of the right form."""
    entries = dict(paper)
    if () not in entries:
        return "root"
    if any(clash not in crosswise_with(wishes, cells) for cells, clash in paper):
        return "clash"
    for cells, clash in paper:
        if len(cells) < most:
            for cell in plain_box(wishes, clash):
                if cell not in cells and tuple(sorted({*cells, cell})) not in entries:
                    return "branch"
    return None


def bent_papers(draw, wishes, most, paper):
    """Papers of the right form near a paper: an entry left out, or put in, or with another clash."""
    for _ in range(6):
        at = draw.randrange(len(paper))
        cells, clash = paper[at]
        yield paper[:at] + paper[at + 1:]
        yield (*paper[:at], (cells, draw.choice(crosswise_with(wishes, cells))), *paper[at + 1:])
        yield (*paper[:at], (cells, paper[draw.randrange(len(paper))][1]), *paper[at + 1:])
        yield (*paper[:at], (cells, (*clash[:2], clash[3], clash[2])), *paper[at + 1:])
        more = tuple(sorted(draw.sample(untouched_cells(wishes), draw.randrange(most + 1))))
        if more not in dict(paper):
            yield (*paper, (more, (crosswise_with(wishes, more) or [(0, 1, 1, 2)])[0]))
    yield paper[::-1]
    yield paper[1:]


class TestPapers(PlainCase):
    def test_drawn_wishes(self):
        draw, papers, seen = random.Random(48), 0, {}
        for at in range(120):
            wishes = small_wishes(draw, at)
            for most in range(4):
                cells = plain_cheapest(wishes, most)
                if cells is not None:
                    self.check_raises(Affordable(cells), price_paper, wishes, most)
                    continue
                paper = plain_paper(wishes, most)
                self.assertEqual(price_paper(wishes, most), paper)
                self.assertIs(price_fault(wishes, most, paper), None)
                papers += 1
                for bent in bent_papers(draw, wishes, most, paper):
                    wanted = plain_fault(wishes, most, bent)
                    self.assertEqual(price_fault(wishes, most, bent), wanted)
                    seen[wanted] = seen.get(wanted, 0) + 1
        self.assertGreater(papers, 100)
        for word in (None, "root", "clash", "branch"):
            self.assertGreater(seen[word], 50, seen)

    def test_line_by_line(self):
        self.assertEqual(price_paper(wishes=BARRED, most=0), (((), (0, 1, 2, 1)),))
        paper = price_paper(BARRED, 1)
        self.assertEqual(paper, (((), (0, 1, 2, 1)), (((0, 1),), (0, 2, 2, 3)), (((1, 2),), (1, 2, 2, 3))))
        self.check_raises(Affordable(((1, 2), (1, 3))), price_paper, Script((1, 2, 3), [(2,), (1,), (3,)]), 2)
        self.check_raises(Affordable(()), price_paper, Script(()), 0)
        self.check_raises(Affordable(()), price_paper, Script((1, 2), [(1,)]), 5)

    def test_five(self):
        paper = price_paper(HARD, 5)
        self.assertEqual(paper, plain_paper(HARD, 5))
        self.assertIs(price_fault(HARD, 5, paper), None)
        self.assertEqual(price_fault(HARD, 5, paper[:-1]), "branch")

    def test_no_paper_holds_against_a_script(self):
        # The entries along the cells that a feasible script adds lead to cells whose clash cannot be told.
        draw, many = random.Random(49), 0
        for at in range(60):
            wishes = small_wishes(draw, at)
            cells = plain_cheapest(wishes, 2)
            if cells:
                for most in range(len(cells), 4):
                    paper = price_paper(wishes, len(cells) - 1)
                    self.assertEqual(price_fault(wishes, most, paper), "branch")
                    self.assertEqual(price_fault(wishes, most, (*paper, (cells, paper[0][1]))), "clash")
                    many += 1
        self.assertGreater(many, 30)


class TestFaults(PlainCase):
    def test_papers_of_no_form(self):
        paper = price_paper(BARRED, 1)
        cell, clash = (0, 1), (0, 1, 2, 1)
        for value in [*any_values(), (*paper, paper[1]), [*paper], (*paper, None), (list(paper[0]), *paper[1:]),
                      (paper[0][:1],), ((*paper[0], ()),), paper[0], paper + (((cell,), (9, 9, 9, 9)),)]:
            self.assertEqual(price_fault(BARRED, 1, value), "form")
        for value in [*any_values(), (0,), (0, 1, 2), [0, 1], (0, 2), (-1, 1), (4, 1), (0, 0), (0, 4), (True, 2),
                      (0, True), (10 ** 39, 1)]:
            if value == (2, 1):
                # The one of the values that is a cell which the wishes do not touch.
                continue
            self.assertEqual(price_fault(BARRED, 1, (*paper, ((value,), clash))), "form")
            self.assertEqual(price_fault(BARRED, 1, (((value,), clash),)), "form")
        for value in [*any_values(), (0, 1, 2), (0, 1, 2, 1, 0), [0, 1, 2, 1], (False, 1, 2, 1), (0, True, 2, 1),
                      (0, 1, 2, True), (0, 1, 2, "1"), (0, 1, 2, None)]:
            self.assertEqual(price_fault(BARRED, 1, (((), value),)), "form")
        for cells in (((0, 1), (0, 3)), ((0, 1), (0, 1)), ((0, 3), (0, 1)), [(0, 1)], None, (0, 1)):
            self.assertEqual(price_fault(BARRED, 1, (*paper, (cells, clash))), "form")
        self.assertEqual(price_fault(BARRED, 2, (((), clash), (((0, 3), (0, 1)), clash))), "form")
        self.assertEqual(price_fault(BARRED, 2, (((), clash), (((0, 1), (0, 1)), clash))), "form")
        self.assertEqual(price_fault(BARRED, 0, paper[:2]), "form")

    def test_each_word_ahead_of_those_behind_it(self):
        clash, none = (0, 1, 2, 1), (0, 1, 1, 2)
        lone = (((0, 1),), none)
        self.assertEqual(price_fault(BARRED, 1, (lone, lone)), "form")
        self.assertEqual(price_fault(BARRED, 1, ()), "root")
        self.assertEqual(price_fault(BARRED, 1, (lone,)), "root")
        self.assertEqual(price_fault(BARRED, 1, (((), clash), lone)), "clash")
        self.assertEqual(price_fault(BARRED, 1, (((), none),)), "clash")
        self.assertEqual(price_fault(BARRED, 1, (((), (0, 1, 10 ** 39, -5)),)), "clash")
        self.assertEqual(price_fault(wishes=BARRED, most=1, paper=(((), clash),)), "branch")
        self.assertIs(price_fault(wishes=BARRED, most=0, paper=(((), clash),)), None)

    def test_clashes_of_added_cells(self):
        # Both cells of a clash may have been added.
        wishes = Script((1, 2, 3, 4), [(4,), (4,)])
        paper = ((((0, 1), (1, 2)), (0, 1, 1, 2)), ((), (0, 1, 4, 3)))
        self.assertEqual(price_fault(wishes, 2, paper), "clash")
        self.assertEqual(price_fault(wishes, 2, paper[::-1]), "clash")
        barred = Script((1, 2, 3, 4), [(3,), (4,)])
        entries = plain_paper(barred, 0)
        self.assertEqual(price_fault(barred, 2, (*entries, paper[0])), "branch")


class TestErrors(PlainCase):
    def check_both(self, error, wishes, most):
        self.check_raises(error, price_paper, wishes, most)
        for paper in (None, (), (((), (0, 1, 2, 1)),)):
            self.check_raises(error, price_fault, wishes, most, paper)

    def test_in_order(self):
        keys = (1, 2, 3, 4, 5, 6)
        marked = Script(keys, [(1,)] * 6 + [Row((1, 2), going=1)])
        for most in (0, 6, -1, None):
            self.check_both(Comes(6), marked, most)
            self.check_both(TooMany("price keys", 6), Script(keys, [(1,)] * 7), most)
            self.check_both(TooMany("price rows", 7), Script(keys[:5], [(1,)] * 7), most)
        for most in [*no_numbers(), -1, -10 ** 39]:
            self.check_both(InvalidNumber(most), BARRED, most)
        for most in (6, 10 ** 39):
            self.check_both(TooMany("more", most), BARRED, most)
            self.check_both(TooMany("more", most), Script((1,)), most)
        for script, moment in marked_scripts():
            self.check_both(Comes(moment), script, 0)

    def test_at_the_limits(self):
        wishes = Script((1, 2, 3, 4, 5), [(3,), (2,), (5,), (1,), (3,), (1,)])
        for most in range(5):
            self.assertIs(price_fault(wishes, most, price_paper(wishes, most)), None)
        self.assertEqual(price(wishes), 5)
        self.check_raises(Affordable(plain_cheapest(wishes, 5)), price_paper, wishes, 5)


if __name__ == "__main__":
    import unittest
    unittest.main()
