"""Promise [51], and the heading tornpapers.py."""

import random

from shapebetween.errors import HasFilling
from shapebetween.tornlogs import TornLog
from shapebetween.tornpapers import torn_fault, torn_paper
from tests.plain import PlainCase, any_values
from tests.test_tornlogs import WORDS, drawn_log, plain_fillings


def words_with(living, rows, told):
    """The words of the cells, with what is told put in."""
    words = {(moment, key): WORDS[row[at]] for moment, row in enumerate(rows) for at, key in enumerate(living)}
    for moment, key, word in told:
        words[moment, key] = word
    return words


def plain_box(living, i, j, k, x):
    return [(m, key) for m in range(i, j + 1) for key in living if min(k, x) <= key <= max(k, x)]


def plainly_blank(living, rows, words, moment):
    return moment in range(len(rows)) and all(words[moment, key] == "no" for key in living)


def plainly_clash(living, rows, words, i, j, k, x):
    if not (i in range(len(rows)) and j in range(len(rows)) and i < j and k in living and x in living and k != x):
        return False
    both = [(i, k), (j, x)]
    return all(words[cell] == ("yes" if cell in both else "no") for cell in plain_box(living, i, j, k, x))


def plain_paper(living, rows, told=()):
    """The entries of what is told and of all that follow from it."""
    words = words_with(living, rows, told)
    for moment in range(len(rows)):
        if plainly_blank(living, rows, words, moment):
            return [(told, ("blank", moment))]
    for j in range(len(rows)):
        for i in range(j):
            for k in living:
                for x in living:
                    if plainly_clash(living, rows, words, i, j, k, x):
                        return [(told, ("clash", i, j, k, x))]
    moment, key = min(cell for cell in words if words[cell] == "unread")
    entries = [(told, ("split", moment, key))]
    for word in ("no", "yes"):
        entries += plain_paper(living, rows, (*told, (moment, key, word)))
    return entries


def plain_fault(living, rows, paper):
    """The first word behind `form` that applies to a paper of the right form."""
    entries = dict(paper)
    if () not in entries:
        return "root"
    faults = set()
    for told, (word, *numbers) in paper:
        words = words_with(living, rows, told)
        if word == "blank" and not plainly_blank(living, rows, words, *numbers):
            faults.add(word)
        if word == "clash" and not plainly_clash(living, rows, words, *numbers):
            faults.add(word)
        if word == "split":
            wider = [tuple(sorted((*told, (*numbers, told_word)))) for told_word in ("no", "yes")]
            if words.get(tuple(numbers)) != "unread" or not all(more in entries for more in wider):
                faults.add(word)
    for word in ("blank", "clash", "split"):
        if word in faults:
            return word
    return None


def bent_papers(draw, living, rows, paper):
    """Papers of the right form near a paper: an entry left out, put in, or with another reason."""
    moments = range(-1, len(rows) + 1)
    keys = (*living, 1)

    def reason():
        some = [("blank", draw.choice(moments)), ("split", draw.choice(moments), draw.choice(keys)),
                ("clash", draw.choice(moments), draw.choice(moments), draw.choice(keys), draw.choice(keys))]
        return draw.choice([*some, draw.choice(paper)[1], draw.choice(paper)[1]])

    for _ in range(8):
        at = draw.randrange(len(paper))
        told = paper[at][0]
        yield (*paper[:at], *paper[at + 1:])
        yield (*paper[:at], (told, reason()), *paper[at + 1:])
        # A told cell less, or with the other word.
        for less in (told[:-1], told[1:], tuple((m, k, "yes" if word == "no" else "no") for m, k, word in told)):
            if less not in dict(paper):
                yield (*paper, (less, reason()))
    yield tuple(paper[::-1])


class TestPapers(PlainCase):
    def test_drawn_logs(self):
        draw, sizes, filled, seen = random.Random(51), {}, 0, {}
        for at in range(500):
            living = ((1, 2), (1, 3, 5), (0, 2, 4, 6))[at % 3]
            rows = drawn_log(draw, living, draw.randrange(1, 6), draw.randrange(7), (0.3, 0.5)[at % 2])
            log = TornLog(living, rows)
            if plain_fillings(living, rows):
                self.check_raises(HasFilling(), torn_paper, log)
                filled += 1
                continue
            paper = torn_paper(log)
            self.assertEqual(paper, tuple(plain_paper(living, rows)))
            self.assertIs(torn_fault(log, paper), None)
            sizes[len(paper)] = sizes.get(len(paper), 0) + 1
            for bent in bent_papers(draw, living, rows, paper):
                wanted = plain_fault(living, rows, bent)
                self.assertEqual(torn_fault(log, bent), wanted)
                seen[wanted] = seen.get(wanted, 0) + 1
        self.assertGreater(min(filled, sum(many for size, many in sizes.items() if size > 4)), 25, sizes)
        for word in (None, "root", "blank", "clash", "split"):
            self.assertGreater(seen[word], 100, seen)

    def test_line_by_line(self):
        log = TornLog((1, 2), ["#.", ".?"])
        self.assertEqual(torn_paper(log=log), (((), ("split", 1, 2)), (((1, 2, "no"),), ("blank", 1)),
                                               (((1, 2, "yes"),), ("clash", 0, 1, 1, 2))))
        self.assertIs(torn_fault(log=log, paper=torn_paper(log)), None)
        # Blank goes ahead of a clash, also of an earlier one.
        self.assertEqual(torn_paper(TornLog((1, 2), ["#.", ".#", ".."])), (((), ("blank", 2)),))
        self.assertEqual(torn_paper(TornLog((1, 2), ["#.", ".#", "#?"])), (((), ("clash", 0, 1, 1, 2)),))
        self.check_raises(HasFilling(), torn_paper, TornLog((1, 2), ["#.", "?#"]))

    def test_blank_where_nothing_lives(self):
        log = TornLog((), ["", ""])
        self.assertEqual(torn_paper(log), (((), ("blank", 0)),))
        self.assertIs(torn_fault(log, (((), ("blank", 1)),)), None)
        self.assertEqual(torn_fault(log, (((), ("blank", 2)),)), "blank")
        self.check_raises(HasFilling(), torn_paper, TornLog(()))
        self.assertEqual(torn_fault(TornLog(()), (((), ("blank", 0)),)), "blank")

    def test_ten_unread_cells(self):
        # Whatever was touched first, the greatest of its keys clashes with 11; the last cell must be read to tell it.
        rows = ["#??????????.", "...........#"]
        log = TornLog(tuple(range(12)), rows)
        self.assertEqual(len(log.unread_cells()), 10)
        paper = torn_paper(log)
        self.assertEqual((len(paper), paper), (2047, tuple(plain_paper(log.living, rows))))
        self.assertIs(torn_fault(log, paper), None)
        self.assertEqual(torn_fault(log, paper[:-1]), "split")
        spread = TornLog((1, 2), ["?."] * 10 + ["#.", ".#"])
        self.assertEqual(torn_paper(spread), tuple(plain_paper((1, 2), spread.rows())))

    def test_the_log_may_change(self):
        log = TornLog((1, 2), ["#.", ".#"])
        paper = torn_paper(log)
        self.assertIs(torn_fault(log, paper), None)
        log[1, 1] = "unread"
        self.assertEqual(torn_fault(log, paper), "clash")
        self.assertEqual(log.filling_count(), 1)


class TestFaults(PlainCase):
    LOG = TornLog((1, 2), ["#.", "??", "#."])

    def test_papers_of_no_form(self):
        log, good = self.LOG, ((), ("blank", 0))
        paper = torn_paper(TornLog((1, 2), ["#.", ".?"]))
        self.assertEqual(torn_fault(log, (good,)), "blank")
        for value in [*any_values(), [good], good, (good, good), (good, None), (list(good),), ((*good, ()),),
                      (((),),), {(): good[1]}, (*paper, paper[1])]:
            self.assertEqual(torn_fault(log, value), "form")
        for value in any_values():
            self.assertEqual(torn_fault(log, (good, value)), "form")
            self.assertEqual(torn_fault(log, (good, (value, ("blank", 0)))), "form")
            self.assertEqual(torn_fault(log, (good, (((1, 1, "no"),), value))), "form")
            self.assertEqual(torn_fault(log, (good, ((value,), ("blank", 0)))), "form")

    def test_what_is_told_of_no_form(self):
        for told in [((0, 1, "yes"),), ((1, 1, "unread"),), ((1, 1, "#"),), ((1, 1),), ((1, 1, "no", 0),), ([1, 1, "no"],),
                     ((1, 3, "no"),), ((3, 1, "no"),), ((-1, 1, "no"),), ((True, 1, "no"),), ((1, True, "no"),),
                     ((1, 1, None),), ((1, 1, ["no"]),), ((1, 2, "no"), (1, 1, "no")), ((1, 1, "no"), (1, 1, "no")),
                     ((1, 1, "no"), (1, 1, "yes")), [(1, 1, "no")], (1, 1, "no"), ((None, 1, "no"),), ((1, "1", "no"),)]:
            self.assertEqual(torn_fault(self.LOG, (((), ("blank", 0)), (told, ("blank", 0)))), "form", told)
        for told in [((1, 1, "no"),), ((1, 2, "yes"),), ((1, 1, "yes"), (1, 2, "no"))]:
            self.assertEqual(torn_fault(self.LOG, (((), ("blank", 0)), (told, ("blank", 0)))), "blank", told)

    def test_reasons_of_no_form(self):
        for reason in [(), ("blank",), ("blank", 0, 0), ("blank", True), ("blank", None), ["blank", 0], ("Blank", 0), (0, 0),
                       ("clash", 0, 1, 1), ("clash", 0, 1, 1, 2, 3), ("clash", 0, 1, 1, "2"), ("clash", 0, True, 1, 2),
                       ("split", 1), ("split", 1, 1, 1), ("split", 1, False), ("root", 0), ("form",), "blank", ((), 1),
                       (None, 1), (["blank"], 0), ({}, 1), ("clash", (0, 1, 1, 2)), ("split", (1, 1))]:
            self.assertEqual(torn_fault(self.LOG, (((), reason),)), "form", reason)
        for reason in [("blank", -1), ("blank", 10 ** 39), ("clash", 0, 1, 1, 2), ("clash", 5, -1, 2000, 10 ** 39),
                       ("split", 1, 1), ("split", -1, 5), ("split", 10 ** 39, 10 ** 39)]:
            self.assertEqual(torn_fault(self.LOG, (((), reason),)), reason[0], reason)

    def test_each_word_ahead_of_those_behind_it(self):
        blank, clash, split = ("blank", 0), ("clash", 0, 1, 1, 2), ("split", 0, 1)
        one, other = ((1, 1, "no"),), ((1, 2, "no"),)
        self.assertEqual(torn_fault(self.LOG, ((one, blank), (one, clash))), "form")
        self.assertEqual(torn_fault(self.LOG, ()), "root")
        self.assertEqual(torn_fault(self.LOG, ((one, blank), (other, clash))), "root")
        self.assertEqual(torn_fault(self.LOG, (((), split), (one, clash), (other, blank))), "blank")
        self.assertEqual(torn_fault(self.LOG, (((), split), (one, clash))), "clash")
        self.assertEqual(torn_fault(self.LOG, ((one, clash), ((), split))), "clash")
        self.assertEqual(torn_fault(self.LOG, (((), split),)), "split")

    def test_clashes(self):
        log = TornLog((1, 2, 3), ["#.#", "...", ".#.", "?.."])
        for clash, wanted in [((0, 2, 1, 2), None), ((0, 2, 3, 2), None), ((2, 0, 1, 2), "clash"), ((0, 0, 1, 3), "clash"),
                              ((0, 2, 1, 1), "clash"), ((0, 2, 2, 1), "clash"), ((0, 2, 1, 3), "clash"),
                              ((2, 3, 2, 1), "clash"), ((0, 4, 1, 2), "clash"), ((-1, 2, 1, 2), "clash"),
                              ((0, 2, 1, 4), "clash"), ((0, 2, 0, 2), "clash"), ((0, 1, 1, 2), "clash")]:
            self.assertEqual(torn_fault(log, (((), ("clash", *clash)),)), wanted, clash)
        # One key alone is no clash, and neither are two moments that both touch it.
        alone = TornLog((1, 2), ["#.", "..", "#."])
        self.assertEqual(torn_fault(alone, (((), ("clash", 0, 2, 1, 1)),)), "clash")
        told = TornLog((1, 2, 3), ["#?.", ".#."])
        self.assertEqual(torn_fault(told, (((), ("clash", 0, 1, 1, 2)),)), "clash")
        entries = (((), ("split", 0, 2)), (((0, 2, "no"),), ("clash", 0, 1, 1, 2)), (((0, 2, "yes"),), ("clash", 0, 1, 1, 2)))
        self.assertEqual(torn_fault(told, entries), "clash")
        self.assertEqual(torn_fault(told, entries[:2]), "split")

    def test_splits(self):
        log = TornLog((1, 2), ["#.", ".?", "?."])
        self.assertEqual(len(log.unread_cells()), 2)
        no, yes = ((1, 2, "no"),), ((1, 2, "yes"),)
        blank, clash = ("blank", 1), ("clash", 0, 1, 1, 2)
        self.assertIs(torn_fault(log, (((), ("split", 1, 2)), (no, blank), (yes, clash))), None)
        for entries in ((((), ("split", 1, 2)), (no, blank)), (((), ("split", 1, 2)), (yes, clash)),
                        (((), ("split", 2, 1)), (no, blank), (yes, clash)), (((), ("split", 0, 1)), (no, blank), (yes, clash)),
                        (((), ("split", 1, 2)), (no, ("split", 1, 2)), (yes, clash))):
            self.assertEqual(torn_fault(log, entries), "split", entries)
        # A later cell may be split ahead of an earlier one: the triples stand in ascending order all the same.
        entries = [((), ("split", 2, 1))]
        for word in ("no", "yes"):
            entries.append((((2, 1, word),), ("split", 1, 2)))
            entries.append((((1, 2, "no"), (2, 1, word)), blank))
            entries.append((((1, 2, "yes"), (2, 1, word)), clash))
        self.assertIs(torn_fault(log, tuple(entries)), None)


if __name__ == "__main__":
    import unittest
    unittest.main()
