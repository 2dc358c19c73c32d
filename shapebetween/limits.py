"""The limits of the package, and what counts as a number."""

from shapebetween.errors import InvalidNumber, PastEnd, TooMany, UnknownName

WORDS = (
    "keys",
    "moments",
    "rules",
    "items",
    "digits",
    "scripts",
    "nodes",
    "edges",
    "standings",
    "price keys",
    "price rows",
    "more",
    "unread",
    "names",
    "deeds",
)

LIMITS = {
    "keys": 12,
    "moments": 60,
    "rules": 40,
    "items": 6,
    "digits": 30,
    "scripts": 5,
    "nodes": 30,
    "edges": 60,
    "standings": 400,
    "price keys": 5,
    "price rows": 6,
    "more": 5,
    "unread": 10,
    "names": 20,
    "deeds": 60,
}


def limit_of(what):
    """The limit of a word."""
    if not isinstance(what, str) or what not in LIMITS:
        raise UnknownName(what)
    return LIMITS[what]


def check_limit(what, count):
    """Raise TooMany if the count is beyond the limit of the word."""
    if count > limit_of(what):
        raise TooMany(what, count)


def is_number(value):
    """Whether any value is an integer and not True or False."""
    return isinstance(value, int) and not isinstance(value, bool)


def is_number_tuple(value, size):
    """Whether any value is a tuple of so many numbers."""
    return isinstance(value, tuple) and len(value) == size and all([is_number(item) for item in value])


def check_end(number, count):
    """Raise PastEnd unless number is a number from 0 to count - 1."""
    if not is_number(number) or number < 0 or number >= count:
        raise PastEnd(number, count)


def check_times(times):
    """Raise InvalidNumber or TooMany for any value that is no number of repetitions."""
    if not is_number(times) or times < 0:
        raise InvalidNumber(times)
    check_limit("digits", len(str(times)))
