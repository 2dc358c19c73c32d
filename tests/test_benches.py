"""Promises [52] and [53], and the heading benches.py."""

import random

from shapebetween.benches import Bench
from shapebetween.errors import (AlreadyLiving, Barred, DraftRunning, InvalidDeed, Missing, NameTaken, NeighbourMissed,
                                 NoDraft, NothingLeft, Refused, ShapeError, TooMany, UnknownKey, UnknownName)
from shapebetween.rows import Row
from shapebetween.stores import Store
from tests.drawn import drawn_row
from tests.plain import PlainCase, any_values


def done_by(deeds):
    """The stores that deeds make, by their names, each from the begin on."""
    stores = {}
    for deed in deeds:
        word, name, *rest = deed.split(" ")
        if word == "new":
            stores[name] = Store(tuple(map(int, rest)))
        elif word == "drop":
            del stores[name]
        elif word == "twin":
            stores[rest[0]] = stores[name].twin()
        else:
            stores[name].apply(Row.read(" ".join(rest)))
    return stores


def plain_line(name, store):
    return " ".join([name.ljust(12), str(len(store)).rjust(3), str(store.next_count).rjust(5), store.tree.text()])


class BenchCase(PlainCase):
    def check_bench(self, bench, deeds, drafting=False):
        """The bench is as the deeds of its journal say."""
        stores = done_by(deeds)
        self.assertEqual((bench.journal(), bench.names()), (deeds, sorted(stores)))
        self.assertIs(bench.drafting, drafting)
        for name, store in stores.items():
            told = bench.store(name)
            self.assertEqual((told.begun_with(), told.past_rows(), told.tree, told.age),
                             (store.begun_with(), store.past_rows(), store.tree, store.age))
            self.assertIn(name, bench)
        self.assertEqual(bench.report(), [plain_line(name, stores[name]) for name in sorted(stores)])
        self.assertEqual((len(bench), bool(bench), repr(bench)), (len(stores), True, f"Bench({len(stores)} stores)"))


class TestDeeds(BenchCase):
    def test_line_by_line(self):
        bench = Bench()
        self.check_bench(bench, [])
        deeds = ["new b 1 2 3", "new a", "row b 2", "twin b c1", "row b 1 2", "row a +999", "row c1 2 3 +7", "new b2c 0 12"]
        for deed in deeds:
            self.assertIsNone(bench.do(deed=deed))
        self.check_bench(bench, deeds)
        self.assertEqual(bench.report(), ["a              1     1 999", "b              3     5 1 2 [3]",
                                          "b2c            2     3 0 12", "c1             4    11 [1] 2 3 7"])
        bench.do("drop b")
        bench.do("row c1 2 3 -7")
        self.check_bench(bench, [*deeds, "drop b", "row c1 2 3 -7"])
        self.assertEqual(bench.store(name="c1").past_rows(), [Row((2,)), Row((2, 3, 7), coming=7), Row((2, 3, 7), going=7)])
        self.assertEqual(bench.store("c1").begun_with(), (1, 2, 3))

    def test_report_with_long_names(self):
        bench = Bench()
        keys = " ".join(str(key) for key in range(12))
        bench.play([f"new abcdefghijk9 {keys}", "new z"])
        self.assertEqual(bench.report(), [f"abcdefghijk9  12  4095 {keys}", "z              0     0 ."])

    def test_values_that_are_no_deeds(self):
        bench = Bench()
        bench.play(["new a 1 2 3", "new b"])
        wrong = ["", " ", "new", "new ", "drop", "twin", "row", "new  a", "new a ", " new a", "new a  1", "new a 1 ", "New a",
                 "new A", "new 1a", "new a-b", "new abcdefghijklm", "new c 2 1", "new c 1 1", "new c 1,2", "new c 01",
                 "new c 1000", "new c -1", "new c +1", "new c x", "new c 1\n", "new c\n", "new\nc", "drop a ", "drop a b",
                 "drop  a", "drop a 1", "drop A", "drop", "twin a", "twin a ", "twin a b c", "twin a  c", "twin a C", "twin A c",
                 "twin a 1", "twin a c ", "row a", "row a ", "row a  1", "row a 1 ", "row a 2 1", "row a 1 1", "row a 1  2",
                 "row a 01", "row a +3 +4", "row a +3 -4", "row a -1 -2", "row a ++3", "row a + 3", "row a 3+", "row a 1000",
                 "row a x", "row A 1", "row  a 1", "rows a 1", "redo", "undo", "do a", "new a 1 2 +3", "row a . 1", "row a ."]
        for deed in [*any_values(), *wrong, ["new", "c"], ("new c",), ["new c"]]:
            self.check_raises(InvalidDeed(0), bench.do, deed)
            self.check_raises(Refused(1, "InvalidDeed"), bench.play, ["new c", deed, None])
        self.check_bench(bench, ["new a 1 2 3", "new b"])

    def test_other_errors_in_order(self):
        bench = Bench()
        deeds = ["new a 1 2 3", "row a 2", "new b"]
        bench.play(deeds)
        thirteen = " ".join(str(key) for key in range(13))
        for deed, error in [
                ("new a 1", NameTaken("a")), (f"new a {thirteen}", NameTaken("a")), (f"new c {thirteen}", TooMany("keys", 13)),
                ("drop c", UnknownName("c")), ("twin c a", UnknownName("c")), ("twin a b", NameTaken("b")),
                ("twin a a", NameTaken("a")), ("row c 1", UnknownName("c")), ("row a 4 5", UnknownKey(4)),
                ("row a +2", AlreadyLiving(2)), ("row a +5", NeighbourMissed(5, 3)), ("row a 3 +5", Barred(3, 2)),
                ("row a 1", Barred(1, 2)), ("row a -4", UnknownKey(4)), ("row a -2", NeighbourMissed(2, 1)),
                ("row b 1", UnknownKey(1))]:
            self.check_raises(error, bench.do, deed)
            self.check_raises(Refused(0, error.code), bench.play, [deed])
        twelve = " ".join(str(key) for key in range(12))
        bench.do(f"new c {twelve}")
        self.check_raises(TooMany("keys", 13), bench.do, "row c 11 +12")
        self.check_bench(bench, [*deeds, f"new c {twelve}"])

    def test_twenty_names(self):
        bench = Bench()
        deeds = [f"new n{at}" for at in range(20)]
        bench.play(deeds)
        thirteen = " ".join(str(key) for key in range(13))
        for deed, error in [("new n20", TooMany("names", 21)), (f"new x {thirteen}", TooMany("names", 21)),
                            ("new n3", NameTaken("n3")), ("twin n3 x", TooMany("names", 21)), ("twin x n3", UnknownName("x")),
                            ("twin n3 n4", NameTaken("n4")), ("twin x y", UnknownName("x"))]:
            self.check_raises(error, bench.do, deed)
        bench.play(["drop n7", "twin n3 x"])
        self.check_bench(bench, [*deeds, "drop n7", "twin n3 x"])
        self.check_raises(TooMany("names", 21), bench.do, "new n7")

    def test_sixty_deeds(self):
        bench = Bench()
        deeds = ["new a 1 2"] + ["row a 1 2"] * 59
        bench.play(deeds)
        for deed in ("row a 1 2", "row c 1", "new a", "drop c", "twin a a", "row a 7"):
            self.check_raises(TooMany("deeds", 61), bench.do, deed)
        self.check_raises(InvalidDeed(0), bench.do, "row a")
        self.check_raises(Refused(0, "TooMany"), bench.play, ["row a 1 2"])
        bench.undo()
        bench.undo()
        bench.redo()
        bench.redo()
        self.check_bench(bench, deeds)
        bench.undo()
        bench.do("row a 1")
        self.check_bench(bench, [*deeds[:-1], "row a 1"])
        self.check_raises(Refused(60, "TooMany"), Bench().play, [*deeds, "drop a"])
        self.check_raises(Refused(60, "InvalidDeed"), Bench().play, [*deeds, "drop"])

    def test_names_of_any_value(self):
        bench = Bench()
        bench.play(["new b1", "new z 1"])
        for value in [*any_values(), "", "b", "B1", "b1 ", ("b1",), ["b1"]]:
            self.assertIs(value in bench, False)
            self.check_raises(UnknownName(value), bench.store, value)
        self.assertIs("b1" in bench, True)
        bench.undo()
        self.assertIs("z" in bench, False)


class TestUndo(BenchCase):
    def test_runs(self):
        bench = Bench()
        deeds = ["new a 1 2 3", "row a 2", "twin a b", "row a 2 3", "drop b", "new b 7"]
        bench.play(deeds)
        for many in range(5, -1, -1):
            self.assertIsNone(bench.undo())
            self.check_bench(bench, deeds[:many])
        for _ in range(2):
            self.check_raises(NothingLeft(), bench.undo)
        for many in range(1, 5):
            self.assertIsNone(bench.redo())
            self.check_bench(bench, deeds[:many])
        bench.undo()
        self.check_bench(bench, deeds[:3])
        for many in (4, 5, 6):
            bench.redo()
            self.check_bench(bench, deeds[:many])
        for _ in range(2):
            self.check_raises(NothingLeft(), bench.redo)
        self.check_bench(bench, deeds)

    def test_a_new_deed_ends_redo(self):
        bench = Bench()
        deeds = ["new a 1 2 3", "row a 2", "new b"]
        bench.play(deeds)
        bench.undo()
        bench.undo()
        # What is refused changes nothing, and an empty list neither.
        for deed in ("row a 4", "new a", "row", "drop c"):
            with self.assertRaises((ShapeError, Missing)):
                bench.do(deed)
            self.check_raises(Refused(1, "InvalidDeed"), bench.play, ["row a 1", "row"])
        self.assertIsNone(bench.play([]))
        bench.play(())
        bench.redo()
        self.check_bench(bench, deeds[:2])
        bench.do("row a 2")
        self.check_raises(NothingLeft(), bench.redo)
        self.check_bench(bench, [*deeds[:2], "row a 2"])
        bench.undo()
        bench.play(["row a 2 3"])
        self.check_raises(NothingLeft(), bench.redo)
        self.check_bench(bench, [*deeds[:2], "row a 2 3"])

    def test_drawn_deeds(self):
        draw, counts = random.Random(52), {}
        for _ in range(25):
            bench, deeds, undone, draft = Bench(), [], [], None
            for _ in range(60):
                deed = self.drawn_deed(draw, bench)
                word = draw.choice(["do", "do", "do", "undo", "undo", "redo", "begin", "keep", "cancel"])
                wanted = True
                if word == "do":
                    wanted = self.tried(bench.do, deed, Missing, ShapeError)
                    deeds, undone = ([*deeds, deed], []) if wanted else (deeds, undone)
                elif word == "undo":
                    wanted = len(deeds) > (len(draft[0]) if draft else 0)
                    self.assertIs(self.tried(bench.undo, None, NothingLeft), wanted)
                    deeds, undone = (deeds[:-1], [*undone, deeds[-1]]) if wanted else (deeds, undone)
                elif word == "redo":
                    wanted = bool(undone)
                    self.assertIs(self.tried(bench.redo, None, NothingLeft), wanted)
                    deeds, undone = ([*deeds, undone[-1]], undone[:-1]) if wanted else (deeds, undone)
                elif word == "begin":
                    wanted = draft is None
                    self.assertIs(self.tried(bench.begin, None, DraftRunning), wanted)
                    draft = draft or (deeds, undone)
                else:
                    wanted = draft is not None
                    self.assertIs(self.tried(bench.keep if word == "keep" else bench.cancel, None, NoDraft), wanted)
                    deeds, undone = draft if draft and word == "cancel" else (deeds, undone)
                    draft = None
                counts[word, wanted] = counts.get((word, wanted), 0) + 1
                self.check_bench(bench, deeds, draft is not None)
        self.assertEqual(len(counts), 12)
        self.assertGreater(min(counts.values()), 20, counts)

    def drawn_deed(self, draw, bench):
        name, other = draw.choice("abcd"), draw.choice("abcd")
        kind = draw.random()
        if kind < 0.2:
            return draw.choice([f"new {name}", f"new {name} 1 2 3", f"new {name} 4 7"])
        if kind < 0.3:
            return f"twin {name} {other}"
        if kind < 0.4:
            return f"drop {name}"
        living = bench.store(name).present if name in bench else (1, 2)
        return f"row {name} {drawn_row(draw, living).text()}"

    def tried(self, function, value, *errors):
        try:
            function() if value is None else function(value)
        except errors:
            return False
        return True


class TestPlaying(BenchCase):
    def test_all_or_none(self):
        bench = Bench()
        self.assertIsNone(bench.play(deeds=["new a 1 2 3", "row a 2"]))
        before = ["new a 1 2 3", "row a 2"]
        self.check_bench(bench, before)
        self.check_raises(Refused(2, "Barred"), bench.play, ["row a 2 3", "twin a b", "row b 1", "row c 1"])
        self.check_raises(Refused(3, "UnknownName"), bench.play, ("row a 2 3", "twin a b", "drop a", "row a 2"))
        self.check_raises(Refused(1, "NameTaken"), bench.play, ["new c", "new c"])
        self.check_raises(Refused(0, "NeighbourMissed"), bench.play, ["row a +5"])
        self.check_bench(bench, before)
        bench.play(("twin a b", "row b 2 3", "drop a"))
        self.check_bench(bench, [*before, "twin a b", "row b 2 3", "drop a"])
        bench.undo()
        self.check_bench(bench, [*before, "twin a b", "row b 2 3"])

    def test_values_that_are_no_lists(self):
        bench = Bench()
        for value in [*any_values(), "new a", {"new a": 1}]:
            if not isinstance(value, (list, tuple)):
                self.check_raises(InvalidDeed(-1), bench.play, value)
            else:
                self.check_raises(Refused(0, "InvalidDeed"), bench.play, value or [None])
        self.check_bench(bench, [])


class TestDrafts(BenchCase):
    def setUp(self):
        self.bench = Bench()
        self.deeds = ["new a 1 2 3", "row a 2", "new b"]
        self.bench.play(self.deeds)

    def test_kept(self):
        bench = self.bench
        self.assertIsNone(bench.begin())
        self.check_raises(DraftRunning(), bench.begin)
        bench.do("row a 2 3")
        bench.do("drop b")
        bench.undo()
        self.check_bench(bench, [*self.deeds, "row a 2 3"], True)
        self.assertIsNone(bench.keep())
        self.check_raises(NoDraft(), bench.keep)
        self.check_raises(NoDraft(), bench.cancel)
        self.check_bench(bench, [*self.deeds, "row a 2 3"])
        bench.redo()
        for many in (4, 3, 2, 1, 0):
            bench.undo()
            self.check_bench(bench, [*self.deeds, "row a 2 3"][:many])

    def test_cancelled(self):
        bench = self.bench
        bench.undo()
        bench.begin()
        bench.do("row a 1 2")
        bench.play(["twin a c", "drop a"])
        self.check_raises(NothingLeft(), bench.redo)
        self.assertIsNone(bench.cancel())
        self.check_bench(bench, self.deeds[:2])
        self.check_raises(NoDraft(), bench.cancel)
        bench.redo()
        self.check_bench(bench, self.deeds)
        self.check_raises(NothingLeft(), bench.redo)
        bench.begin()
        bench.cancel()
        self.check_bench(bench, self.deeds)

    def test_undo_up_to_the_begin(self):
        bench = self.bench
        bench.undo()
        bench.begin()
        self.check_raises(NothingLeft(), bench.undo)
        # What was taken back before may be done again, and then taken back.
        bench.redo()
        self.check_bench(bench, self.deeds, True)
        bench.undo()
        self.check_raises(NothingLeft(), bench.undo)
        bench.do("row a 2")
        bench.do("row a 2")
        bench.undo()
        bench.undo()
        self.check_raises(NothingLeft(), bench.undo)
        self.check_bench(bench, self.deeds[:2], True)
        bench.cancel()
        bench.undo()
        bench.redo()
        bench.redo()
        self.check_bench(bench, self.deeds)

    def test_twins_in_the_middle_of_a_draft(self):
        bench = self.bench
        bench.undo()
        bench.begin()
        bench.do("row a 1 2")
        bench.do("row a 1")
        bench.undo()
        other = bench.twin()
        self.check_bench(other, [*self.deeds[:2], "row a 1 2"], True)
        other.redo()
        self.check_bench(other, [*self.deeds[:2], "row a 1 2", "row a 1"], True)
        self.check_bench(bench, [*self.deeds[:2], "row a 1 2"], True)
        bench.keep()
        other.undo()
        other.undo()
        self.check_raises(NothingLeft(), other.undo)
        other.do("new z")
        other.cancel()
        self.check_bench(other, self.deeds[:2])
        other.redo()
        self.check_bench(other, self.deeds)
        self.check_bench(bench, [*self.deeds[:2], "row a 1 2"])
        bench.redo()
        self.check_bench(bench, [*self.deeds[:2], "row a 1 2", "row a 1"])
        self.check_raises(NoDraft(), bench.cancel)

    def test_what_is_told_is_new(self):
        bench = self.bench
        for told in (bench.names(), bench.journal(), bench.report()):
            told.clear()
        store = bench.store("a")
        store.touch(1, 2)
        deeds = ["row a 2"]
        bench.play(deeds)
        deeds.append("drop a")
        self.check_bench(bench, [*self.deeds, "row a 2"])
        self.assertEqual((store.age, bench.store("a").age), (2, 2))
        store.touch(1)
        self.assertEqual(bench.store("a").tree.text(), "[1] 2 [3]")


if __name__ == "__main__":
    import unittest
    unittest.main()
