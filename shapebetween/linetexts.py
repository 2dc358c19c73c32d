"""What the texts of scripts and of recipes share: lines, and the line of the living keys."""

from shapebetween.errors import InvalidText
from shapebetween.lots import keys_of_words

LIVING = "living"


def lines_text(lines):
    """The text with these lines, a line feed behind each."""
    return "".join([f"{line}\n" for line in lines])


def split_lines(text):
    """The pair of the lines that end with a line feed and of the characters behind the last one."""
    if not isinstance(text, str) or text == "":
        raise InvalidText(0)
    pieces = text.split("\n")
    return pieces[:-1], pieces[-1]


def living_line(living):
    """The first line of a text, with the living keys."""
    return " ".join([LIVING, *[str(key) for key in living]])


def read_living(lines):
    """The key set in the first line, if there is one that ends with a line feed."""
    words = lines[0].split(" ") if lines else []
    living = keys_of_words(words[1:])
    if words[:1] != [LIVING] or living is None:
        raise InvalidText(0)
    return living
