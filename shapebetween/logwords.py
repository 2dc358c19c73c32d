"""The words of the cells of torn logs, and the signs that write them."""

YES = "yes"
NO = "no"
UNREAD = "unread"
SIGNS = {"yes": "#", "no": ".", "unread": "?"}
WORDS = {"#": "yes", ".": "no", "?": "unread"}


def is_word(value):
    """Whether any value is the word of a cell."""
    return isinstance(value, str) and value in SIGNS


def words_of(living, rows):
    """The dict from the cells, ascending, to their words."""
    words = {}
    for moment, row in enumerate(rows):
        for key, sign in zip(living, row):
            words[moment, key] = WORDS[sign]
    return words


def rows_with(living, rows, cell, word):
    """The tuple of the rows of signs in which a cell has a word."""
    moment, key = cell
    at = living.index(key)
    changed = rows[moment][:at] + SIGNS[word] + rows[moment][at + 1:]
    return (*rows[:moment], changed, *rows[moment + 1:])
