"""Torn papers: what shows that a torn log has no filling."""

from shapebetween.cells import box_of
from shapebetween.crosswise import crosswise_tuples
from shapebetween.errors import HasFilling
from shapebetween.faultwords import BLANK, CLASH, FORM, ROOT, SPLIT
from shapebetween.limits import is_number_tuple
from shapebetween.logwords import NO, UNREAD, YES, words_of
from shapebetween.lots import is_ascending, lives_in
from shapebetween.rows import Row

# How many numbers stand behind the word of a reason.
SIZES = {"blank": 1, "clash": 4, "split": 2}


def torn_paper(log):
    """The least torn paper."""
    if log.can_be():
        raise HasFilling()
    return tuple(entries_below(log, words_of(log.living, log.rows()), ()))


def torn_fault(log, paper):
    """The fault of any value as a torn paper, None if it holds."""
    words = words_of(log.living, log.rows())
    if not is_torn_paper(words, paper):
        return FORM
    reasons = {told: reason for told, reason in paper}
    if () not in reasons:
        return ROOT
    for word in SIZES:
        entries = [told for told in reasons if reasons[told][0] == word]
        if not all([is_right(log, words, reasons, told) for told in entries]):
            return word
    return None


def entries_below(log, words, told):
    """The list of the entry of what is told, put into the words already, and of all that follow from it."""
    reason = least_reason(log, words)
    entries = [(told, reason)]
    if reason[0] == SPLIT:
        cell = reason[1:]
        for word in (NO, YES):
            entries = entries + entries_below(log, {**words, cell: word}, (*told, (*cell, word)))
    return entries


def least_reason(log, words):
    """The first reason that there is in a log with these words."""
    lots = [tuple([key for key in log.living if words[moment, key] != NO]) for moment in range(len(log))]
    if () in lots:
        return BLANK, lots.index(())
    # What may be touched bars a clash as what is touched does, but only cells that are touched make one.
    for i, j, k, x in crosswise_tuples([log.living] * len(lots), [Row(lot) for lot in lots]):
        if words[i, k] == YES and words[j, x] == YES:
            return CLASH, i, j, k, x
    moment, key = [cell for cell in words if words[cell] == UNREAD][0]
    return SPLIT, moment, key


def is_torn_paper(words, value):
    """Whether any value is a tuple of entries that tell different things."""
    if not isinstance(value, tuple) or not all([is_torn_entry(words, entry) for entry in value]):
        return False
    return len({entry[0]: True for entry in value}) == len(value)


def is_torn_entry(words, value):
    """Whether any value is a pair of what is told and a reason."""
    if not isinstance(value, tuple) or len(value) != 2:
        return False
    return is_told(words, value[0]) and is_reason(value[1])


def is_told(words, value):
    """Whether any value is a tuple of unread cells, ascending, each with a word."""
    if not isinstance(value, tuple) or not all([is_told_cell(words, item) for item in value]):
        return False
    return is_ascending([item[:2] for item in value])


def is_told_cell(words, value):
    """Whether any value is a triple of the moment and the key of an unread cell and one of the words yes and no."""
    if not isinstance(value, tuple) or not is_number_tuple(value[:2], 2) or len(value) != 3:
        return False
    return words.get(value[:2], NO) == UNREAD and value[2] in (YES, NO)


def is_reason(value):
    """Whether any value is a tuple of the word of a reason and as many numbers as stand behind it."""
    if not isinstance(value, tuple) or not value or not isinstance(value[0], str) or value[0] not in SIZES:
        return False
    return is_number_tuple(value[1:], SIZES[value[0]])


def is_right(log, words, reasons, told):
    """Whether the reason of an entry is right."""
    known = {**words, **{cell[:2]: cell[2] for cell in told}}
    word, *numbers = reasons[told]
    if word == BLANK:
        return is_blank(log, known, numbers[0])
    if word == CLASH:
        return is_clash(log, known, numbers)
    return is_split(known, reasons, told, tuple(numbers))


def is_blank(log, words, moment):
    """Whether a number is a moment of the log whose cells are all no."""
    return 0 <= moment < len(log) and all([words[moment, key] == NO for key in log.living])


def is_clash(log, words, clash):
    """Whether in the box of four numbers only the cells (i, k) and (j, x) are yes, and all others no."""
    i, j, k, x = clash
    if not 0 <= i < j < len(log) or not lives_in(log.living, k) or not lives_in(log.living, x) or k == x:
        return False
    return all([words[cell] == (YES if cell in ((i, k), (j, x)) else NO) for cell in box_of(log.living, clash)])


def is_split(words, reasons, told, cell):
    """Whether a cell is unread, and both words for it are told by an entry."""
    if words.get(cell, NO) != UNREAD:
        return False
    return all([tuple(sorted([*told, (*cell, word)])) in reasons for word in (NO, YES)])
