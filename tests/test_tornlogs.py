"""Promise [50], and the heading tornlogs.py."""

import itertools
import random

from shapebetween.errors import (Comes, InvalidLot, InvalidRow, InvalidWord, NoFilling, PastEnd, TooMany, UnknownCell)
from shapebetween.rows import Row
from shapebetween.scripts import Script
from shapebetween.tornlogs import TornLog, torn_from
from tests.drawn import drawn_script, plain_crosswise
from tests.plain import PlainCase, any_values, no_numbers
from tests.test_lazy import marked_scripts

WORDS = {"#": "yes", ".": "no", "?": "unread"}
SIGNS = {word: sign for sign, word in WORDS.items()}


def plain_fillings(living, rows):
    """All fillings, in order: a try of all words for the unread cells."""
    places = [(moment, at) for moment, row in enumerate(rows) for at, sign in enumerate(row) if sign == "?"]
    found = []
    for signs in itertools.product(".#", repeat=len(places)):
        told = dict(zip(places, signs))
        lots = [tuple(key for at, key in enumerate(living) if told.get((moment, at), row[at]) == "#")
                for moment, row in enumerate(rows)]
        if all(lots) and not plain_crosswise(living, [Row(lot) for lot in lots]):
            found.append(Script(living, lots))
    return found


def drawn_log(draw, living, moments, unread=5, share=0.5):
    """Rows of signs of a drawn log, with a moment without touched cells now and then."""
    rows = [["#" if draw.random() < share else "." for _ in living] for _ in range(moments)]
    cells = [(moment, at) for moment in range(moments) for at in range(len(living))]
    for moment, at in draw.sample(cells, min(unread, len(cells))):
        rows[moment][at] = "?"
    return ["".join(row) for row in rows]


class TestWords(PlainCase):
    def check_log(self, log, living, rows):
        """The log tells these words in all ways."""
        self.assertEqual((log.living, log.rows(), list(log), len(log)), (living, rows, rows, len(rows)))
        cells = {(moment, key): WORDS[row[at]] for moment, row in enumerate(rows) for at, key in enumerate(living)}
        for cell, word in cells.items():
            moment, key = cell
            self.assertEqual((log[cell], log[moment, key]), (word, word))
        self.assertEqual(log.unread_cells(), [cell for cell in sorted(cells) if cells[cell] == "unread"])
        self.assertEqual((bool(log), repr(log)), (True, f"TornLog({len(rows)} rows)"))

    def test_drawn_words(self):
        draw, refused = random.Random(50), 0
        for at in range(40):
            living = ((1, 2), (1, 3, 5), (0, 2, 4, 999))[at % 3]
            rows = drawn_log(draw, living, draw.randrange(1, 6), 8)
            log = TornLog(living, rows if at % 2 else tuple(rows))
            self.check_log(log, living, rows)
            for _ in range(25):
                moment, place = draw.randrange(len(rows)), draw.randrange(len(living))
                word = draw.choice(["yes", "no", "unread", "unread"])
                row = rows[moment][:place] + SIGNS[word] + rows[moment][place + 1:]
                changed = [*rows[:moment], row, *rows[moment + 1:]]
                key = living[place]
                if "".join(changed).count("?") > 10:
                    self.check_raises(TooMany("unread", 11), log.write, moment, key, word)
                    self.check_raises(TooMany("unread", 11), log.__setitem__, (moment, key), word)
                    refused += 1
                elif draw.random() < 0.5:
                    log[moment, key] = word
                    rows = changed
                else:
                    self.assertIsNone(log.write(moment=moment, key=key, word=word))
                    rows = changed
                self.check_log(log, living, rows)
        self.assertGreater(refused, 10)

    def test_without_cells(self):
        self.check_log(TornLog(()), (), [])
        self.check_log(TornLog((), ["", ""]), (), ["", ""])
        self.check_log(TornLog((1, 2)), (1, 2), [])
        self.check_log(TornLog(living=(7,), rows=("#", "?")), (7,), ["#", "?"])

    def test_wrong_cells_and_words(self):
        log = TornLog((0, 1, 4), ["#.?", "??#"])
        cells = [*any_values(), 0, (0,), (0, 1, 4), [0, 1], (0, 2), (-1, 1), (2, 1), (True, 1), (0, True), (0, False),
                 (10 ** 39, 1), (0, 1000), ((0, 1),), ()]
        for value in cells:
            if value == (1, 1):
                continue
            self.check_raises(UnknownCell(value), lambda: log[value])
            for word in ("yes", "", None):
                self.check_raises(UnknownCell(value), log.__setitem__, value, word)
        for value in any_values():
            for word in ("yes", "", None):
                self.check_raises(UnknownCell((value, 1)), log.write, value, 1, word)
                self.check_raises(UnknownCell((0, value)), log.write, 0, value, word)
        for word in [*any_values(), "Yes", "yes ", "#", "?", ".", "not", ("yes",)]:
            self.check_raises(InvalidWord(word), log.write, 0, 1, word)
            self.check_raises(InvalidWord(word), log.__setitem__, (0, 1), word)
        self.check_log(log, (0, 1, 4), ["#.?", "??#"])

    def test_ten_unread_cells(self):
        rows = ["?????", "?????", "#####"]
        log = TornLog((1, 2, 3, 4, 5), rows)
        self.check_raises(TooMany("unread", 11), log.write, 2, 1, "unread")
        self.check_raises(InvalidWord("unsure"), log.write, 2, 1, "unsure")
        log[0, 1] = "unread"
        self.check_log(log, (1, 2, 3, 4, 5), rows)
        log[0, 1] = "no"
        log[2, 5] = "unread"
        self.check_log(log, (1, 2, 3, 4, 5), [".????", "?????", "####?"])

    def test_twins(self):
        log = TornLog((1, 2), ["#?", "?#"])
        other = log.twin()
        self.check_log(other, (1, 2), ["#?", "?#"])
        log[0, 2] = "yes"
        other[1, 1] = "no"
        self.check_log(log, (1, 2), ["##", "?#"])
        self.check_log(other, (1, 2), ["#?", ".#"])
        self.assertEqual((log.filling_count(), other.filling_count()), (2, 1))

    def test_lists_may_be_changed(self):
        rows = ["#?", "?#"]
        log = TornLog((1, 2), rows)
        rows.append("##")
        log.rows().clear()
        log.unread_cells().clear()
        log.sure_cells().clear()
        self.check_log(log, (1, 2), ["#?", "?#"])
        self.assertEqual((log.unread_cells(), log.sure_cells()), ([(0, 2), (1, 1)], {}))


class TestConstructor(PlainCase):
    def test_errors_in_order(self):
        many = ["?" * 12] * 61
        for value in any_values():
            if value != ():
                self.check_raises(InvalidLot(value), TornLog, value, None)
        self.check_raises(TooMany("keys", 13), TornLog, tuple(range(13)), None)
        for value in [*any_values(), 0]:
            if not isinstance(value, (list, tuple)):
                self.check_raises(InvalidRow(-1), TornLog, (1, 2), value)
        for value in [*any_values(), "#", "###", "# ", "#x", ("#", "#"), ["##"]]:
            self.check_raises(InvalidRow(2), TornLog, (1, 2), ["##", "??", value, None, *["?x"] * 60])
        self.check_raises(InvalidRow(61), TornLog, tuple(range(12)), [*many, "?"])
        self.check_raises(InvalidRow(0), TornLog, (), ["#"])
        self.check_raises(TooMany("moments", 61), TornLog, tuple(range(12)), many)
        self.check_raises(TooMany("moments", 400), TornLog, (1,), ["#"] * 400)
        self.check_raises(TooMany("unread", 720), TornLog, tuple(range(12)), many[:60])
        self.check_raises(TooMany("unread", 11), TornLog, tuple(range(11)), ["?" * 11])
        self.check_raises(TooMany("unread", 11), TornLog, (1,), ["?"] * 11)

    def test_at_the_limits(self):
        log = TornLog(tuple(range(12)), ["#" * 12] * 59 + ["??????????##"])
        self.assertEqual((len(log), len(log.unread_cells()), log.filling_count()), (60, 10, 1024))
        self.assertEqual(log.filling_at(1023), Script(tuple(range(12)), [tuple(range(12))] * 60))
        self.assertEqual(TornLog((1,), ["?"] * 10 + ["#"] * 50).filling_count(), 1)


class TestFillings(PlainCase):
    def check_fillings(self, log, living):
        wanted = plain_fillings(living, log.rows())
        self.assertEqual((log.filling_count(), log.can_be()), (len(wanted), len(wanted) > 0))
        self.assertIs(type(log.can_be()), bool)
        self.assertEqual(list(log.fillings()), wanted)
        self.assertEqual([log.filling_at(number) for number in range(len(wanted))], wanted)
        for number in [-1, len(wanted), 10 ** 1499, *no_numbers()]:
            self.check_raises(PastEnd(number, len(wanted)), log.filling_at, number)
        if not wanted:
            self.check_raises(NoFilling(), log.sure_cells)
            return 0, 0
        sure = {}
        for moment, key in log.unread_cells():
            touched = {key in script[moment].lot for script in wanted}
            if len(touched) == 1:
                sure[moment, key] = "yes" if True in touched else "no"
        self.assertEqual(log.sure_cells(), sure)
        self.assertEqual(list(log.sure_cells()), sorted(sure))
        return len(wanted), len(sure)

    def test_drawn_logs(self):
        draw, none, some, sure, words = random.Random(51), 0, 0, 0, set()
        for at in range(200):
            living = ((1, 2), (1, 3, 5), (0, 2, 4, 6), ())[at % 7 % 4]
            rows = drawn_log(draw, living, draw.randrange(5), draw.randrange(7), (0.5, 0.8)[at % 2])
            log = TornLog(living, rows)
            many, surely = self.check_fillings(log, living)
            none += many == 0
            some += many > 2
            sure += 0 < surely < len(log.unread_cells())
            words |= set(log.sure_cells().values()) if many else set()
        self.assertGreater(min(none, some, sure), 20)
        self.assertEqual(words, {"yes", "no"})

    def test_line_by_line(self):
        log = TornLog((1, 2), ["??", "#?"])
        self.assertEqual([[row.lot for row in script] for script in log.fillings()],
                         [[(2,), (1, 2)], [(1,), (1,)], [(1,), (1, 2)], [(1, 2), (1,)], [(1, 2), (1, 2)]])
        self.assertEqual(log.filling_at(number=1), Script((1, 2), [(1,), (1,)]))
        self.assertEqual(log.sure_cells(), {})
        log[1, 1] = "no"
        self.assertEqual(log.sure_cells(), {(0, 2): "yes", (1, 2): "yes"})
        log[0, 1] = "yes"
        log[0, 2] = "no"
        self.check_raises(NoFilling(), log.sure_cells)

    def test_without_cells(self):
        self.assertEqual(self.check_fillings(TornLog(()), ()), (1, 0))
        self.assertEqual(self.check_fillings(TornLog((), [""]), ()), (0, 0))
        self.assertEqual(self.check_fillings(TornLog((1, 2)), (1, 2)), (1, 0))
        self.assertEqual(self.check_fillings(TornLog((1, 2), ["##", ".."]), (1, 2)), (0, 0))

    def test_within_one_another(self):
        log = TornLog((1, 2), ["??", "#?"])
        whole = list(log.fillings())
        self.assertEqual([(one, other) for one in log.fillings() for other in log.fillings()],
                         [(one, other) for one in whole for other in whole])

    def test_of_the_log_as_it_is_at_the_first_request(self):
        log = TornLog((1, 2), ["??", "#?"])
        before = list(log.fillings())
        begun, waiting = log.fillings(), log.fillings()
        first = next(begun)
        log[0, 1] = "no"
        self.assertEqual([first, *begun], before)
        after = plain_fillings((1, 2), log.rows())
        self.assertEqual(list(waiting), after)
        self.assertNotEqual(before, after)

    def test_is_filling(self):
        draw, seen = random.Random(52), {True: 0, False: 0}
        for _ in range(60):
            rows = drawn_log(draw, (1, 3, 5), 3, 6, 0.7)
            log, wanted = TornLog((1, 3, 5), rows), plain_fillings((1, 3, 5), rows)
            for script in [*wanted[:4], *(drawn_script(draw, (1, 3, 5), 3, marks=False) for _ in range(20))]:
                self.assertIs(log.is_filling(script), script in wanted)
                seen[script in wanted] += 1
        self.assertGreater(min(seen.values()), 50)

    def test_is_filling_of_any_value(self):
        log = TornLog((1, 2), ["??", "#?"])
        self.assertIs(log.is_filling(script=Script((1, 2), [(1,), (1,)])), True)
        for value in [*any_values(), log, [(1,), (1,)], Script((1, 2), [(1,)]), Script((1, 2), [(1,), (1,), (1,)]),
                      Script((1, 2, 3), [(1,), (1,)]), Script((1, 2), [(2,), (1,)]), Script((1, 2), [(1,), (2,)]),
                      Script((1, 2), [(1,), Row((1, 2), going=2)]), Script((1, 2), [Row((1, 2), going=2), (1,)])]:
            self.assertIs(log.is_filling(value), False)
        for value in any_values():
            self.assertIs(TornLog((), [""]).is_filling(value), False)
        self.assertIs(TornLog(()).is_filling(Script(())), True)


class TestTornFrom(PlainCase):
    def test_drawn_scripts(self):
        draw = random.Random(53)
        for _ in range(80):
            script = drawn_script(draw, (1, 3, 5), draw.randrange(6), marks=False)
            every = [(moment, key) for moment in range(len(script)) for key in (1, 3, 5)]
            cells = [draw.choice(every) for _ in range(draw.randrange(10))] if every else []
            rows = ["".join("?" if (moment, key) in cells else ".#"[key in row.lot] for key in (1, 3, 5))
                    for moment, row in enumerate(script.rows())]
            for given in (cells, tuple(cells)):
                log = torn_from(script=script, cells=given)
                self.assertIs(type(log), TornLog)
                self.assertEqual((log.living, log.rows()), ((1, 3, 5), rows))
            self.assertIs(log.is_filling(script), script.feasible)

    def test_errors_in_order(self):
        for script, moment in marked_scripts():
            self.check_raises(Comes(moment), torn_from, script, [])
            self.check_raises(Comes(moment), torn_from, script, [None])
        script = Script((0, 1, 2), [(1,), (1, 2), (0,), (2,)])
        every = [(moment, key) for moment in range(4) for key in (0, 1, 2)]
        for value in [*any_values(), (0, 3), (-1, 1), (4, 1), (0,), (0, 1, 2), [0, 1], (True, 1), (0, True)]:
            if value not in ((2, 1), (1, 1)):
                self.check_raises(UnknownCell(value), torn_from, script, [(0, 0), *every, value, None])
        self.check_raises(TooMany("unread", 11), torn_from, script, every[:11])
        self.check_raises(TooMany("unread", 12), torn_from, script, every * 3)
        log = torn_from(script, every[:10] * 20)
        self.assertEqual(log.unread_cells(), every[:10])
        self.assertEqual(torn_from(Script(()), []).rows(), [])


if __name__ == "__main__":
    import unittest
    unittest.main()
