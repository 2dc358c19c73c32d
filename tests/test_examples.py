"""The examples of DOC.md for the modules that are built."""

from shapebetween.closed import closed_lots
from shapebetween.errors import Barred, InvalidText
from shapebetween.forms import Form
from shapebetween.meeting import Meeting
from shapebetween.runs import Runs
from shapebetween.scripts import Script
from shapebetween.shapes import Shape
from shapebetween.stores import Store
from shapebetween.weaktrees import WeakTree
from tests.plain import PlainCase


class TestExamples(PlainCase):
    def test_scripts(self):
        script = Script((1, 2, 3), ((2,), (1,)))
        self.assertEqual([script.feasible, script.first_crosswise(), script.past], [False, (0, 1, 2, 1), None])

    def test_stores(self):
        store = Store((1, 2, 3))
        store.touch(2)
        self.assertEqual([store.tree.text(), list(closed_lots(store.tree)), store.tree.needs(1)],
                         ["[1] 2 [3]", [(2,), (1, 2), (2, 3), (1, 2, 3)], (2,)])
        self.check_raises(Barred(key=1, needed=2), store.touch, 1)

    def test_runs(self):
        script = Script.read("living 2 4\n2 4\n2 +3 4\n3 -4\n2 3\n")
        runs = Runs(script)
        self.assertEqual([script.end, runs.choices(), runs.total], [(2, 3), [2, 2, 2, 1, 2], 16])
        runs = Runs(Script((1, 2, 3), ((1, 2, 3), (2, 3))))
        begin, first, last = runs.run_at(7)
        self.assertEqual([begin.text(), first.text(), last.text(), runs.total],
                         ["1 [[2] 3]", "[[1] 2] 3", "[[1] 2] 3", 20])

    def test_meetings(self):
        past = WeakTree((1, 2, 3, 4), (1, 1, 1, 0))
        future = WeakTree((1, 2, 3, 4), (1, 0, 1, 1))
        self.assertEqual([past.text(), future.text(), Meeting(past, future).total], ["1 2 3 [4]", "1 [2] 3 4", 2])
        self.assertEqual(Meeting(WeakTree((1, 2), (1, 2)), WeakTree((1, 2), (2, 1))).crossing, (2, 1))

    def test_forms(self):
        form = Form(Script((1, 2, 3), ((2,), (1, 2))))
        self.assertEqual([repr(form), form * 10 ** 12 == form], ["Form(1 2 [3] | [1] 2 [3] | .)", True])

    def test_texts(self):
        self.check_raises(InvalidText(at=2), Shape.read, "1 2")


if __name__ == "__main__":
    import unittest
    unittest.main()
