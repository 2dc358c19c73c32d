"""The lines of the texts of recipes, written and read."""

from shapebetween.lots import DIGITS, is_lot, is_name, keys_of_words

TOUCH = "touch"
TIMES = "*"


def rule_line(name, items):
    """The line of a rule."""
    words = ", ".join([item_text(item) for item in items])
    return f"{name} = {words}" if items else f"{name} ="


def item_text(item):
    """The text of an item of a rule."""
    if is_lot(item):
        return " ".join([TOUCH, *[str(key) for key in item]])
    name, times = item
    return f"{name} {TIMES} {times}"


def read_rule(line):
    """The rule in a line, None if the line is not of its form."""
    name, sign, rest = line.partition(" =")
    if sign == "" or not is_name(name):
        return None
    if rest == "":
        return name, ()
    if not rest.startswith(" "):
        return None
    items = [read_item(text) for text in rest[1:].split(", ")]
    return None if any([item is None for item in items]) else (name, tuple(items))


def read_item(text):
    """The lot or the call in the text of an item, None if it is neither."""
    words = text.split(" ")
    if len(words) == 3 and words[1] == TIMES:
        times = number_of_word(words[2])
        return (words[0], times) if is_name(words[0]) and times is not None else None
    lot = keys_of_words(words[1:])
    return lot if words[0] == TOUCH and is_lot(lot) else None


def number_of_word(word):
    """The number that a word without leading zeros and signs writes, None if it writes none."""
    if word == "" or not all([sign in DIGITS for sign in word]):
        return None
    if word[0] == "0" and len(word) > 1:
        return None
    return int(word)
