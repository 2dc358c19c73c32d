"""Keys, key sets, lots, stretches, neighbours and names."""

from shapebetween.errors import DuplicateKey, InvalidKey, InvalidLot, OtherKeys, UnknownKey
from shapebetween.limits import check_limit, is_number

GREATEST_KEY = 999
DIGITS = "0123456789"
LETTERS = "abcdefghijklmnopqrstuvwxyz"
LONGEST_NAME = 12


def is_key(value):
    """Whether any value is a key."""
    return is_number(value) and 0 <= value <= GREATEST_KEY


def is_key_set(value):
    """Whether any value is an ascending tuple of different keys."""
    if not isinstance(value, tuple):
        return False
    return all([is_key(key) for key in value]) and is_ascending(value)


def is_ascending(values):
    """Whether each of the values, which can be compared, is greater than the one before it."""
    return all([values[at - 1] < values[at] for at in range(1, len(values))])


def is_lot(value):
    """Whether any value is a key set with at least one key."""
    return is_key_set(value) and len(value) > 0


def is_name(value):
    """Whether any value is a name: a lowercase letter, then lowercase letters and digits."""
    if not isinstance(value, str) or not 1 <= len(value) <= LONGEST_NAME:
        return False
    if value[0] not in LETTERS:
        return False
    return all([sign in LETTERS or sign in DIGITS for sign in value])


def lives_in(living, value):
    """Whether any value is a key of the key set living."""
    return is_key(value) and value in living


def check_lives(living, value):
    """Raise UnknownKey for any value that is no key of the key set living."""
    if not lives_in(living, value):
        raise UnknownKey(value)


def check_all_live(living, lot):
    """Raise UnknownKey with the first key of lot that is not in living."""
    for key in lot:
        check_lives(living, key)


def check_key_set(value):
    """Raise InvalidLot for any value that is no key set."""
    if not is_key_set(value):
        raise InvalidLot(value)


def check_living(value):
    """Raise InvalidLot or TooMany for any value that cannot be the living keys."""
    check_key_set(value)
    check_limit("keys", len(value))


def check_lot(living, lot):
    """Raise InvalidLot for any value that is no lot, UnknownKey for one with keys not in living."""
    if not is_lot(lot):
        raise InvalidLot(lot)
    check_all_live(living, lot)


def check_distinct_keys(values):
    """Raise InvalidKey for the first value that is no key, then DuplicateKey."""
    for value in values:
        if not is_key(value):
            raise InvalidKey(value)
    for at, key in enumerate(values):
        if key in values[:at]:
            raise DuplicateKey(key)


def check_same_keys(one, other):
    """Raise OtherKeys with the least key that is in exactly one of two key sets."""
    odd = sorted(set(one) ^ set(other))
    if odd:
        raise OtherKeys(odd[0])


def stretch_between(living, one, other):
    """The keys of living from the lesser to the greater one of two of them."""
    check_lives(living, one)
    check_lives(living, other)
    least = min(one, other)
    greatest = max(one, other)
    return tuple([key for key in living if least <= key <= greatest])


def neighbours_of(living, key):
    """The keys of living next below and next above a key, None where there is none."""
    lesser = [other for other in living if other < key]
    greater = [other for other in living if other > key]
    return (lesser[-1] if lesser else None, greater[0] if greater else None)


def key_of_word(word):
    """The key that a word without leading zeros and signs writes, None if it writes none."""
    if not 1 <= len(word) <= len(str(GREATEST_KEY)):
        return None
    if not all([sign in DIGITS for sign in word]):
        return None
    if word[0] == "0" and len(word) > 1:
        return None
    return int(word)


def keys_of_words(words):
    """The key set that words write in ascending order, None if they write none."""
    found = tuple([key_of_word(word) for word in words])
    return found if is_key_set(found) else None


def comma_words(found):
    """The keys in their order, with commas between them."""
    return ", ".join([str(key) for key in found])
