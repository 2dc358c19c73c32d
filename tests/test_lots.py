"""Promise [4], names of [36] and the heading lots.py."""

import itertools

from shapebetween import lots
from shapebetween.errors import DuplicateKey, InvalidKey, InvalidLot, OtherKeys, TooMany, UnknownKey
from shapebetween.lots import is_key, is_key_set, is_lot, is_name, neighbours_of, stretch_between
from tests.plain import PlainCase, any_values


class TestKinds(PlainCase):
    def test_keys(self):
        for value in (0, 1, 12, 998, 999):
            self.assertIs(is_key(value), True)
            self.assertIs(is_key(value=value), True)
        for value in [*any_values(), -1, 1000, 10 ** 39, "7", ()]:
            self.assertIs(is_key(value), False, value)

    def test_key_sets_and_lots(self):
        for value in ((0,), (999,), (1, 2), (0, 5, 999), tuple(range(13)), tuple(range(400))):
            self.assertIs(is_key_set(value), True)
            self.assertIs(is_lot(value), True)
        self.assertIs(is_key_set(()), True)
        self.assertIs(is_lot(()), False)
        for value in [*any_values(), [1, 2], {1: 1}, (1, 1), (2, 1), (1, 3, 2), (-1, 0), (999, 1000), (1, True),
                      (0, True), (False,), (True, 2), (1, None), (1, (2,)), (1, "2"), ((1, 2),), 3]:
            self.assertIs(is_key_set(value), False, value)
            self.assertIs(is_lot(value), False, value)

    def test_names(self):
        for value in ("a", "z", "a1", "m0", "touch", "living", "abcdefghijkl", "a23456789012"):
            self.assertIs(is_name(value), True)
        for value in ["", "abcdefghijklm", "a234567890123", "1", "1a", "A", "aB", "a b", " a", "a ", "a_b", "a-", "a\n",
                      "\n", ".", None, True, 1, ("a",), ["a"], {"a": 1}]:
            self.assertIs(is_name(value), False, value)


class TestStretches(PlainCase):
    def test_either_way_round(self):
        living = (2, 3, 5, 8)
        for one, other in itertools.product(living, repeat=2):
            low, high = min(one, other), max(one, other)
            plain = tuple(key for key in living if low <= key <= high)
            self.assertEqual(stretch_between(living, one, other), plain)
        self.assertEqual(stretch_between(living=living, one=8, other=3), (3, 5, 8))
        self.assertEqual(stretch_between(living, 5, 5), (5,))
        self.assertEqual(stretch_between((0, 1), 1, 0), (0, 1))

    def test_unknown_keys(self):
        living = (0, 1, 5)
        for value in [*any_values(), 2, 4, 6, 999]:
            self.check_raises(UnknownKey(value), stretch_between, living, value, 1)
            self.check_raises(UnknownKey(value), stretch_between, living, 1, value)
            self.check_raises(UnknownKey(value), stretch_between, living, value, None)
        self.check_raises(UnknownKey(True), stretch_between, living, True, 1)
        self.check_raises(UnknownKey(False), stretch_between, living, 5, False)
        self.check_raises(UnknownKey(0), stretch_between, (), 0, 0)

    def test_neighbours(self):
        living = (0, 2, 5, 999)
        expected = {0: (None, 2), 1: (0, 2), 2: (0, 5), 3: (2, 5), 4: (2, 5), 5: (2, 999), 6: (5, 999),
                    998: (5, 999), 999: (5, None)}
        for key, pair in expected.items():
            self.assertEqual(neighbours_of(living, key), pair)
        self.assertEqual(neighbours_of((), 3), (None, None))
        self.assertEqual(neighbours_of((3,), 3), (None, None))
        self.assertEqual(neighbours_of(living=(3,), key=1), (None, 3))


class TestChecks(PlainCase):
    def test_living(self):
        for value in any_values():
            self.check_raises(InvalidLot(value), lots.check_living, value)
        self.assertIsNone(lots.check_living(tuple(range(12))))
        self.assertIsNone(lots.check_living(()))
        self.check_raises(TooMany("keys", 13), lots.check_living, tuple(range(13)))

    def test_lot(self):
        for value in [*any_values(), ()]:
            self.check_raises(InvalidLot(value), lots.check_lot, (1, 2), value)
        self.check_raises(UnknownKey(0), lots.check_lot, (1, 2), (0, 1, 3))

    def test_distinct_keys(self):
        self.check_raises(InvalidKey("a"), lots.check_distinct_keys, (1, 1, "a", True))
        self.check_raises(InvalidKey(True), lots.check_distinct_keys, (1, True))
        self.check_raises(DuplicateKey(2), lots.check_distinct_keys, (1, 2, 3, 2, 1))

    def test_same_keys(self):
        self.assertIsNone(lots.check_same_keys((1, 2), (1, 2)))
        self.check_raises(OtherKeys(0), lots.check_same_keys, (1, 2), (0, 1, 2))
        self.check_raises(OtherKeys(2), lots.check_same_keys, (1, 2, 7), (1, 3))

    def test_words_of_keys(self):
        for key in range(1000):
            self.assertEqual(lots.key_of_word(str(key)), key)
        for word in ("", "00", "01", "1000", "-1", "+1", " 1", "1 ", "1\n", "a", "1a"):
            self.assertIsNone(lots.key_of_word(word))
