"""Promise [2] and the heading errors.py."""

import inspect
import unittest

from shapebetween import errors

SHAPE_ERRORS = {
    "InvalidKey": ("value",), "DuplicateKey": ("key",), "InvalidLot": ("value",), "InvalidMark": ("value",),
    "InvalidRow": ("at",), "InvalidText": ("at",), "NotSearch": ("key",), "InvalidNumbers": ("at",),
    "AlreadyLiving": ("key",), "NeighbourMissed": ("key", "neighbour"), "TooMany": ("what", "count"),
    "NotTop": ("key",), "OtherKeys": ("key",), "NotClosed": ("key", "needed"), "Barred": ("key", "needed"),
    "Unresolved": ("first", "last"), "NotMeeting": ("k", "x"), "InvalidWord": ("value",),
    "InvalidNumber": ("value",), "Infeasible": ("i", "j", "k", "x"), "Stuck": ("moment", "key"),
    "Comes": ("moment",), "InvalidRule": ("at",), "InvalidItem": ("at", "item"), "InvalidName": ("value",),
    "DuplicateName": ("name",), "InvalidNodes": (), "InvalidEdge": ("at",), "InvalidWalk": ("at",),
    "Unsafe": ("walk",), "InvalidWall": ("value",), "Untouched": ("key",), "Affordable": ("cells",),
    "NoFilling": (), "HasFilling": (), "InvalidDeed": ("at",), "NameTaken": ("name",),
    "Refused": ("at", "why"), "DraftRunning": (), "NoDraft": (),
}
MISSING = {"UnknownKey": ("key",), "UnknownName": ("name",), "UnknownCell": ("value",)}
ENDS = {"PastEnd": ("number", "count"), "NothingLeft": ()}
ALL = {**SHAPE_ERRORS, **MISSING, **ENDS}


class TestErrors(unittest.TestCase):
    def test_no_other_class(self):
        found = [name for name, _ in inspect.getmembers(errors, inspect.isclass)]
        self.assertEqual(sorted(found), sorted([*ALL, "ShapeError", "Missing"]))

    def test_direct_bases(self):
        self.assertEqual(errors.ShapeError.__bases__, (ValueError,))
        self.assertEqual(errors.Missing.__bases__, (LookupError,))
        for names, base in ((SHAPE_ERRORS, errors.ShapeError), (MISSING, errors.Missing), (ENDS, IndexError)):
            for name in names:
                self.assertEqual(getattr(errors, name).__bases__, (base,), name)

    def test_values_by_place(self):
        for name, words in ALL.items():
            given = [(word, [None]) for word in words]
            error = getattr(errors, name)(*given)
            self.assertEqual([getattr(error, word) for word in words], given, name)

    def test_values_by_name(self):
        for name, words in ALL.items():
            given = {word: at for at, word in enumerate(words)}
            error = getattr(errors, name)(**given)
            self.assertEqual({word: getattr(error, word) for word in words}, given, name)

    def test_wrong_number_of_values(self):
        for name, words in ALL.items():
            with self.assertRaises(TypeError):
                getattr(errors, name)(*range(len(words) + 1))
            if words:
                with self.assertRaises(TypeError):
                    getattr(errors, name)()

    def test_code(self):
        for name, words in ALL.items():
            self.assertEqual(getattr(errors, name)(*words).code, name)

    def test_bases_have_no_code(self):
        self.assertFalse(hasattr(errors.ShapeError(), "code"))
        self.assertFalse(hasattr(errors.Missing(), "code"))

    def test_raised_and_caught(self):
        with self.assertRaises(ValueError):
            raise errors.TooMany("keys", 13)
        with self.assertRaises(LookupError):
            raise errors.UnknownKey(3)
        with self.assertRaises(IndexError):
            raise errors.NothingLeft()


if __name__ == "__main__":
    unittest.main()
