"""Promise [3] and the heading limits.py."""

from shapebetween.errors import PastEnd, TooMany, UnknownName
from shapebetween.limits import WORDS, check_end, check_limit, is_number, limit_of
from tests.plain import PlainCase, any_values

TABLE = [
    ("keys", 12), ("moments", 60), ("rules", 40), ("items", 6), ("digits", 30), ("scripts", 5), ("nodes", 30),
    ("edges", 60), ("standings", 400), ("price keys", 5), ("price rows", 6), ("more", 5), ("unread", 10),
    ("names", 20), ("deeds", 60),
]


class TestLimits(PlainCase):
    def test_words_in_order(self):
        self.assertIsInstance(WORDS, tuple)
        self.assertEqual(WORDS, tuple(word for word, _ in TABLE))

    def test_limits(self):
        for word, limit in TABLE:
            self.assertEqual(limit_of(word), limit)
            self.assertEqual(limit_of(what=word), limit)

    def test_no_word(self):
        for value in [*any_values(), "Keys", "keys ", "price", "key", 12]:
            self.check_raises(UnknownName(value), limit_of, value)
            self.check_raises(UnknownName(value), check_limit, value, 0)
            self.check_raises(UnknownName(value), check_limit, value, 10 ** 39)

    def test_counts_at_the_limit_and_beyond(self):
        for word, limit in TABLE:
            for count in (-5, 0, limit - 1, limit):
                self.assertIsNone(check_limit(word, count))
            for count in (limit + 1, limit + 7, 10 ** 39):
                self.check_raises(TooMany(word, count), check_limit, word, count)
                self.check_raises(TooMany(word, count), check_limit, what=word, count=count)

    def test_numbers(self):
        for value in (0, -1, 1, 10 ** 1500, -10 ** 39):
            self.assertIs(is_number(value), True)
        for value in (None, True, False, "1", (1,), [1], {}, {1: 1}):
            self.assertIs(is_number(value), False)

    def test_ends(self):
        for number, count in ((0, 1), (4, 5), (10 ** 1499, 10 ** 1500)):
            self.assertIsNone(check_end(number, count))
        for number in (-1, 5, 6, 10 ** 1500, True, False, None, "1", (1,), [0]):
            self.check_raises(PastEnd(number, 5), check_end, number, 5)
        self.check_raises(PastEnd(0, 0), check_end, 0, 0)
