"""The examples of DOC.md."""

from shapebetween.benches import Bench
from shapebetween.closed import closed_lots
from shapebetween.errors import Barred, InvalidText
from shapebetween.forms import Form
from shapebetween.gates import lower_bound
from shapebetween.lazy import lazy_script
from shapebetween.meeting import Meeting
from shapebetween.runs import Runs
from shapebetween.scripts import Script
from shapebetween.shapes import Shape
from shapebetween.stores import Store
from shapebetween.tornlogs import TornLog
from shapebetween.weaktrees import WeakTree
from tests.plain import PlainCase


class TestExamples(PlainCase):
    def test_scripts(self):
        script = Script((1, 2, 3), ((2,), (1,)))
        self.assertEqual([script.feasible, script.first_crosswise(), script.past], [False, (0, 1, 2, 1), None])

    def test_stores(self):
        store = Store((1, 2, 3))
        store.touch(2)
        self.assertEqual([store.tree.text(), list(closed_lots(store.tree)), store.tree.needs(1)],
                         ["[1] 2 [3]", [(2,), (1, 2), (2, 3), (1, 2, 3)], (2,)])
        self.check_raises(Barred(key=1, needed=2), store.touch, 1)

    def test_runs(self):
        script = Script.read("living 2 4\n2 4\n2 +3 4\n3 -4\n2 3\n")
        runs = Runs(script)
        self.assertEqual([script.end, runs.choices(), runs.total], [(2, 3), [2, 2, 2, 1, 2], 16])
        runs = Runs(Script((1, 2, 3), ((1, 2, 3), (2, 3))))
        begin, first, last = runs.run_at(7)
        self.assertEqual([begin.text(), first.text(), last.text(), runs.total],
                         ["1 [[2] 3]", "[[1] 2] 3", "[[1] 2] 3", 20])

    def test_meetings(self):
        past = WeakTree((1, 2, 3, 4), (1, 1, 1, 0))
        future = WeakTree((1, 2, 3, 4), (1, 0, 1, 1))
        self.assertEqual([past.text(), future.text(), Meeting(past, future).total], ["1 2 3 [4]", "1 [2] 3 4", 2])
        self.assertEqual(Meeting(WeakTree((1, 2), (1, 2)), WeakTree((1, 2), (2, 1))).crossing, (2, 1))

    def test_forms(self):
        form = Form(Script((1, 2, 3), ((2,), (1, 2))))
        self.assertEqual([repr(form), form * 10 ** 12 == form], ["Form(1 2 [3] | [1] 2 [3] | .)", True])

    def test_wishes(self):
        wishes = Script((1, 2, 3, 4, 5), ((3,), (1,), (4,), (2,), (5,)))
        lazy = lazy_script(wishes)
        self.assertEqual([lazy.touches(), lazy_script(wishes, side="rising").touches(), lower_bound(wishes)],
                         [11, 10, 10])

    def test_torn_logs(self):
        log = TornLog((1, 2), ("#.", "?#"))
        self.assertEqual([log.filling_count(), log.sure_cells(), log[1, 1]], [1, {(1, 1): "yes"}, "unread"])

    def test_benches(self):
        bench = Bench()
        bench.play(["new a 1 2 3", "row a 2"])
        self.assertEqual(bench.report(), ["a              3     4 [1] 2 [3]"])

    def test_texts(self):
        self.check_raises(InvalidText(at=2), Shape.read, "1 2")


if __name__ == "__main__":
    import unittest
    unittest.main()
