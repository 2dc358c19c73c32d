"""Texts of shapes and weak trees, written from the levels of the keys and read into them."""

from shapebetween.errors import InvalidText, NotSearch
from shapebetween.limits import check_limit
from shapebetween.lots import DIGITS, key_of_word

EMPTY = "."

# What stands just before the next sign: the begin of a level, a key and a space,
# a bracketed item and a space, a digit of a key, a closing bracket.
BEGIN = 0
KEY_SPACE = 1
PIECE_SPACE = 2
DIGIT = 3
SHUT = 4


class TreeReader:
    """Takes a text sign by sign as long as it can still become the text of a nonempty tree."""

    def __init__(self, single):
        self._single = single
        self._state = BEGIN
        self._keyed = [False]
        self._words = []
        self._levels = []

    def take(self, sign):
        """Whether the sign can stand here; if so, it is taken."""
        if sign in DIGITS:
            return self._take_digit(sign)
        if sign == "[":
            return self._take_open()
        if sign == "]":
            return self._take_close()
        if sign == " ":
            return self._take_space()
        return False

    def is_whole(self):
        """Whether what was taken is the text of a tree."""
        return len(self._keyed) == 1 and self._level_is_whole()

    def found_keys(self):
        """The keys that were taken, from left to right."""
        return [int(word) for word in self._words]

    def found_levels(self):
        """The levels of the keys that were taken."""
        return list(self._levels)

    def _level_is_whole(self):
        return self._state == DIGIT or (self._state == SHUT and self._keyed[-1])

    def _take_digit(self, sign):
        if self._state == DIGIT:
            return self._take_further_digit(sign)
        if self._state == SHUT or (self._single and self._keyed[-1]):
            return False
        self._words.append(sign)
        self._levels.append(len(self._keyed) - 1)
        self._keyed[-1] = True
        self._state = DIGIT
        return True

    def _take_further_digit(self, sign):
        longer = self._words[-1] + sign
        if key_of_word(longer) is None:
            return False
        self._words[-1] = longer
        return True

    def _take_open(self):
        if self._state not in (BEGIN, KEY_SPACE):
            return False
        self._keyed.append(False)
        self._state = BEGIN
        return True

    def _take_close(self):
        if len(self._keyed) == 1 or not self._level_is_whole():
            return False
        self._keyed.pop()
        self._state = SHUT
        return True

    def _take_space(self):
        if self._state == DIGIT:
            self._state = KEY_SPACE
            return True
        # With one key a level nothing can follow a piece behind the key, so no space can either.
        if self._state != SHUT or (self._single and self._keyed[-1]):
            return False
        self._state = PIECE_SPACE
        return True


def read_levels(text, single):
    """The pair of the keys and their levels in a text; single asks for one key in each level."""
    if not isinstance(text, str):
        raise InvalidText(0)
    if text.startswith(EMPTY):
        if text != EMPTY:
            raise InvalidText(len(EMPTY))
        return (), []
    reader = TreeReader(single)
    for at, sign in enumerate(text):
        if not reader.take(sign):
            raise InvalidText(at)
    if not reader.is_whole():
        raise InvalidText(len(text))
    found = reader.found_keys()
    check_limit("keys", len(found))
    check_search(found)
    return tuple(found), reader.found_levels()


def check_search(found):
    """Raise NotSearch with the first key that is not greater than the one before it."""
    for at in range(1, len(found)):
        if found[at] <= found[at - 1]:
            raise NotSearch(found[at])


def levels_text(living, levels):
    """The text of the tree on a key set whose keys have these levels."""
    if not living:
        return EMPTY
    # Between two keys as many brackets open or shut as their levels differ; at both ends the level is 0.
    around = [0, *levels, 0]
    words = []
    for at, key in enumerate(living):
        level = levels[at]
        opening = "[" * max(0, level - around[at])
        shutting = "]" * max(0, level - around[at + 2])
        words.append(f"{opening}{key}{shutting}")
    return " ".join(words)
