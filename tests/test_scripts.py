"""Promises [17], [18], [19], [20] and [30], and the heading scripts.py (texts: test_scripttexts.py)."""

import random

from shapebetween.errors import (AlreadyLiving, InvalidLot, InvalidNumber, InvalidRow, NeighbourMissed, OtherKeys,
                                 PastEnd, TooMany, UnknownKey)
from shapebetween.follow import can_follow, past_behind_row
from shapebetween.resolving import resolving_shapes
from shapebetween.rows import Row
from shapebetween.scripts import Script
from shapebetween.weaktrees import WeakTree
from tests.drawn import (drawn_living, drawn_script, feasible_script, plain_crosswise, plain_future, plain_lives,
                         plain_past, plain_runs)
from tests.plain import PlainCase, any_values, lots_of, no_numbers


def orders(shapes):
    return sorted({tuple(shape.order()) for shape in shapes})


def drawn_scripts(seed, many=250):
    draw = random.Random(seed)
    for at in range(many):
        living = drawn_living(draw, most=5)
        make = drawn_script if at % 2 else feasible_script
        yield make(draw, living, draw.randrange(9), marks=at % 3 > 0)


class TestWhatScriptsSay(PlainCase):
    def test_living_keys_rows_and_marks(self):
        for script in drawn_scripts(17):
            rows = script.rows()
            lives = plain_lives(script.living, rows)
            self.assertEqual([script.living_at(at) for at in range(len(rows) + 1)], lives)
            self.assertEqual((script.living, script.end), (lives[0], lives[-1]))
            self.assertEqual(list(script), rows)
            self.assertEqual([script[at] for at in range(len(script))], rows)
            self.assertTrue(all(type(row) is Row for row in rows))
            marked = [at for at, row in enumerate(rows) if row.coming is not None or row.going is not None]
            self.assertEqual(script.first_marked(), marked[0] if marked else None)
            self.assertEqual(script.touches(), sum(len(row.lot) for row in rows))

    def test_crosswise_tuples(self):
        seen = {True: 0, False: 0}
        for script in drawn_scripts(20, 300):
            rows = script.rows()
            wanted = plain_crosswise(script.living, rows)
            self.assertEqual(script.all_crosswise(), wanted)
            self.assertEqual(script.first_crosswise(), wanted[0] if wanted else None)
            self.assertIs(script.feasible, not wanted)
            seen[not wanted] += 1
            for i in range(-1, len(rows) + 1):
                for j in range(len(rows)):
                    for k in script.living_at(min(max(i, 0), len(rows))):
                        for x in script.living + (8,):
                            self.assertIs(script.is_crosswise((i, j, k, x)), (i, j, k, x) in wanted)
        self.assertGreater(min(seen.values()), 50)

    def test_first_crosswise_tells_the_first_row_that_cannot_follow(self):
        for script in drawn_scripts(21):
            tree, moment = WeakTree.level(script.living), 0
            for row in script:
                if not can_follow(tree, row):
                    break
                tree, moment = past_behind_row(tree, row), moment + 1
            first = script.first_crosswise()
            self.assertEqual(None if first is None else first[1], None if moment == len(script) else moment)

    def test_is_crosswise_of_any_value(self):
        script = Script((0, 1, 2), ((1,), (0,)))
        self.assertEqual(script.all_crosswise(), [(0, 1, 1, 0)])
        self.assertIs(script.is_crosswise((0, 1, 1, 0)), True)
        for value in [*any_values(), [0, 1, 1, 0], (False, True, True, False), (0, 1, 1, False), (0, 1, 1), (),
                      (0, 1, 1, 0, 0), (0, 1, 0, 1), "0110", ((0, 1, 1, 0),), 10 ** 39]:
            self.assertIs(script.is_crosswise(value=value), False)

    def test_gone_and_coming_keys_count(self):
        # 1 goes between 0 and 2, and comes back, with both neighbours touched.
        going = Script((0, 1, 2), ((0, 1, 2), Row((0, 1, 2), going=1), (0,), (2,)))
        self.assertEqual(going.all_crosswise(), [(2, 3, 0, 2)])
        coming = Script((0, 2), ((0,), Row((0, 1, 2), coming=1), (0, 2), (1, 2)))
        self.assertEqual(coming.all_crosswise(), [(2, 3, 0, 1)])
        apart = Script((0, 2), ((0, 2), Row((0, 1, 2), coming=1), (0, 1, 2)))
        self.assertEqual(apart.all_crosswise(), [])

    def test_past_and_future_trees(self):
        many = 0
        for script in drawn_scripts(18):
            if not script.feasible:
                self.assertEqual((script.past, script.future), (None, None))
                continue
            many += 1
            rows = script.rows()
            self.assertEqual(script.past, plain_past(script.living, rows))
            self.assertEqual(script.future, plain_future(script.living, rows))
            back = Script(script.end, [row.backward() for row in rows[::-1]])
            self.assertEqual((back.feasible, back.past, back.future), (True, script.future, script.past))
        self.assertGreater(many, 100)

    def test_runs_through_all_shapes(self):
        draw, many = random.Random(19), {True: 0, False: 0}
        for at in range(150):
            living = drawn_living(draw, most=4)
            script = drawn_script(draw, living, draw.randrange(5), most=4, marks=at % 3 > 0)
            runs = plain_runs(living, script.rows())
            self.assertIs(script.feasible, bool(runs))
            many[script.feasible] += 1
            if runs:
                self.assertEqual(orders(run[0] for run in runs), orders(resolving_shapes(script.future)))
                self.assertEqual(orders(run[-1] for run in runs), orders(resolving_shapes(script.past)))
        self.assertGreater(min(many.values()), 15)

    def test_without_rows(self):
        for living in [(), *lots_of((0, 5, 999))]:
            script = Script(living)
            self.assertEqual((script.living, script.end, script.feasible), (living, living, True))
            self.assertEqual((script.past, script.future), (WeakTree.level(living), WeakTree.level(living)))
            self.assertEqual((script.rows(), script.all_crosswise(), script.touches()), ([], [], 0))
            self.assertEqual((script.first_crosswise(), script.first_marked()), (None, None))
            self.assertEqual((len(script), bool(script), script), (0, True, Script(living, [])))

    def test_numbers_that_are_no_numbers(self):
        script = Script((0, 1, 2), ((1,), Row((0, 1), going=0)))
        for value in [*any_values(), 2, -1, 10 ** 1499, -10 ** 1499, slice(0, 1)]:
            with self.assertRaises(PastEnd) as caught:
                script[value]
            self.assertEqual(repr((caught.exception.number, caught.exception.count)), repr((value, 2)))
        self.assertEqual(script[1], Row((0, 1), going=0))
        for value in [*any_values(), 3, -1, 10 ** 1499]:
            self.check_raises(PastEnd(value, 3), script.living_at, value)
        self.assertEqual(script.living_at(moment=2), (1, 2))

    def test_words_and_equality(self):
        script = Script((0, 1), ((1,), (0, 1)))
        self.assertEqual(repr(script), "Script(2 rows)")
        self.assertEqual(repr(Script(())), "Script(0 rows)")
        self.assertEqual(repr(Script((0,), [(0,)])), "Script(1 rows)")
        self.assertEqual((len(script), bool(script), Script.MOST, script.MOST), (2, True, 60, 60))
        self.assertEqual(script, Script((0, 1), [Row((1,)), Row((0, 1))]))
        others = [Script((0, 1), ((1,),)), Script((0, 1, 2), ((1,), (0, 1))), Script((0, 1), ((0, 1), (1,))),
                  Script((0, 1), ((1,), Row((0, 1), going=0))), None, ((1,), (0, 1)), [Row((1,)), Row((0, 1))]]
        for other in others:
            self.assertFalse(script == other)
            self.assertTrue(script != other)


class TestConstructor(PlainCase):
    def test_living(self):
        for value in any_values():
            if value != ():
                self.check_raises(InvalidLot(value), Script, value, None)
        self.check_raises(InvalidLot([0, 1]), Script, [0, 1])
        self.check_raises(TooMany("keys", 13), Script, tuple(range(13)), None)
        self.assertEqual(Script(living=tuple(range(12)), rows=()).end, tuple(range(12)))

    def test_no_list_of_rows(self):
        for value in any_values():
            if not isinstance(value, (list, tuple)):
                self.check_raises(InvalidRow(-1), Script, (0, 1), value)
        self.check_raises(InvalidRow(-1), Script, (0, 1), Row((0, 1)))
        self.check_raises(InvalidRow(-1), Script, (0, 1), Script((0, 1)))
        self.check_raises(InvalidRow(0), Script, (0, 1), (0, 1))

    def test_items_that_are_no_rows(self):
        for value in [*any_values(), (), [0], 0]:
            if not isinstance(value, Row):
                self.check_raises(InvalidRow(1), Script, (0, 1), [(7,), value, None])
                self.check_raises(InvalidRow(0), Script, (0, 1), (value,))
        # An item that is no row counts ahead of their number, and their number ahead of a row that does not fit.
        self.check_raises(InvalidRow(70), Script, (0, 1), [(7,)] * 70 + [None])
        self.check_raises(TooMany("moments", 61), Script, (0, 1), [(7,)] * 61)
        self.check_raises(TooMany("moments", 400), Script, (), ((7,),) * 400)
        self.assertEqual(len(Script((0, 1), [(0,)] * 60)), 60)

    def test_rows_that_do_not_fit(self):
        self.check_raises(UnknownKey(7), Script, (0, 1), [(0,), (0, 7, 8), (9,)])
        self.check_raises(AlreadyLiving(2), Script, (0, 2), [Row((0, 2), coming=2)])
        self.check_raises(NeighbourMissed(1, 2), Script, (0, 2), [(0,), Row((0, 1), coming=1), (9,)])
        self.check_raises(NeighbourMissed(1, 0), Script, (0, 1, 2), [Row((1,), going=1)])
        full = tuple(range(12))
        self.check_raises(TooMany("keys", 13), Script, full, [(3,), Row((11, 12), coming=12)])
        # What has gone does not live, and what has come does.
        self.check_raises(UnknownKey(0), Script, (0, 2), [Row((0, 2), going=0), (0,)])
        self.check_raises(AlreadyLiving(1), Script, (0, 2), [Row((0, 1, 2), coming=1), Row((0, 1, 2), coming=1)])
        self.assertEqual(Script((0,), [Row((0,), going=0), Row((0,), coming=0)]).end, (0,))

    def test_rows_that_fit_and_cannot_follow(self):
        script = Script((1, 2, 3), ((2,), (1,)))
        self.assertEqual([script.feasible, script.first_crosswise(), script.past], [False, (0, 1, 2, 1), None])

    def test_lots_and_rows_in_lists_and_tuples(self):
        rows = [(0, 1), Row((1,)), (0, 1)]
        script = Script((0, 1), rows)
        self.assertEqual(script, Script((0, 1), tuple(rows)))
        rows.append((7,))
        rows[0] = None
        self.assertEqual(script.rows(), [Row((0, 1)), Row((1,)), Row((0, 1))])

    def test_lists_that_are_told_may_be_changed(self):
        script = Script((1, 2, 3), ((2,), (1,)))
        script.rows().append(None)
        script.rows()[0] = None
        script.all_crosswise().clear()
        self.assertEqual((script.rows(), script.all_crosswise()), ([Row((2,)), Row((1,))], [(0, 1, 2, 1)]))


class TestJoinedAndRepeated(PlainCase):
    def test_joined(self):
        draw, kinds = random.Random(30), set()
        for at in range(200):
            living = drawn_living(draw, most=4)
            make = (drawn_script, feasible_script)[at % 2]
            one = make(draw, living, draw.randrange(5))
            other = make(draw, one.end, draw.randrange(5))
            both = one + other
            self.assertEqual(both, Script(living, one.rows() + other.rows()))
            wanted = not plain_crosswise(living, both.rows())
            self.assertIs(both.feasible, wanted)
            kinds.add((one.feasible, other.feasible, wanted))
        self.assertIn((True, True, True), kinds)
        self.assertIn((True, True, False), kinds)
        self.assertNotIn((False, True, True), kinds)
        self.assertNotIn((True, False, True), kinds)

    def test_joined_errors(self):
        one = Script((1, 2), [(1, 2)] * 31 + [Row((2, 3), coming=3)])
        self.check_raises(OtherKeys(3), one.__add__, one)
        self.check_raises(OtherKeys(0), one.__add__, Script((0, 1, 2, 3), [(0,)] * 60))
        self.check_raises(OtherKeys(2), one.__add__, Script((1, 4), [(4,)] * 60))
        self.check_raises(OtherKeys(1), Script((1,), [(1,)] * 31).__add__, Script((8,), [(8,)] * 31))
        same = Script((1, 2), [(1,)] * 31)
        self.check_raises(TooMany("moments", 61), same.__add__, Script((1, 2), [(1,)] * 30))
        self.assertEqual(len(same + Script((1, 2), [(2,)] * 29)), 60)
        self.assertEqual(same + Script((1, 2)), same)
        self.assertEqual(Script((1, 2)) + same, same)

    def test_repeated(self):
        draw = random.Random(31)
        for at in range(60):
            living = drawn_living(draw, most=4)
            script = drawn_script(draw, living, draw.randrange(5), marks=at % 2 > 0)
            self.assertEqual(script * 0, Script(living))
            self.assertEqual(0 * script, Script(living))
            self.assertEqual(script * 1, script)
            self.assertEqual(1 * script, script)
            for times in (2, 3):
                if script.end == living:
                    self.assertEqual(script * times, Script(living, script.rows() * times))
                    self.assertEqual(times * script, script * times)
                elif len(script):
                    key = min(set(living) ^ set(script.end))
                    self.check_raises(OtherKeys(key), script.__mul__, times)
                    self.check_raises(OtherKeys(key), script.__rmul__, times)

    def test_repeated_errors(self):
        changing = Script((1, 2), [Row((2, 3), coming=3)])
        same = Script((1, 2), [(1,), (1, 2)])
        for script in (changing, same, Script((1, 2))):
            for value in [*no_numbers(), -1, -10 ** 39]:
                self.check_raises(InvalidNumber(value), lambda: script * value)
                if not isinstance(value, Script):
                    self.check_raises(InvalidNumber(value), lambda: value * script)
            self.check_raises(TooMany("digits", 31), lambda: script * 10 ** 30)
            self.check_raises(TooMany("digits", 40), lambda: (10 ** 40 - 1) * script)
        self.check_raises(OtherKeys(3), lambda: changing * (10 ** 30 - 1))
        self.check_raises(OtherKeys(3), lambda: 2 * changing)
        self.check_raises(TooMany("moments", 2 * (10 ** 30 - 1)), lambda: same * (10 ** 30 - 1))
        self.check_raises(TooMany("moments", 62), lambda: 31 * same)
        self.check_raises(TooMany("moments", 61), lambda: Script((1, 2), [(1,)]) * 61)
        self.check_raises(TooMany("moments", 61), lambda: 61 * Script((1, 2), [(1,)]))
        self.assertEqual(len(same * 30), 60)
        self.assertEqual(len(30 * same), 60)

    def test_without_rows_however_often(self):
        for living in ((), (1, 2)):
            empty = Script(living)
            for times in (0, 1, 2, 10 ** 29, 10 ** 30 - 1):
                self.assertEqual(empty * times, empty)
                self.assertEqual(times * empty, empty)

    def test_nothing_is_changed(self):
        one, other = Script((1, 2), [(1,)]), Script((1, 2), [(2,)])
        both, more = one + other, one * 3
        self.assertEqual((one, other), (Script((1, 2), [(1,)]), Script((1, 2), [(2,)])))
        self.assertEqual((len(both), len(more)), (2, 3))


if __name__ == "__main__":
    import unittest
    unittest.main()
