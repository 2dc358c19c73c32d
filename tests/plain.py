"""Plain ways to the answers of the package, and what the tests share."""

import itertools
import unittest

from shapebetween.benches import Bench
from shapebetween.forms import Form
from shapebetween.lookers import Looker
from shapebetween.meeting import Meeting
from shapebetween.programs import Program
from shapebetween.recipes import Recipe
from shapebetween.rows import Row
from shapebetween.runs import Runs
from shapebetween.scripts import Script
from shapebetween.shapes import Shape
from shapebetween.stores import Store
from shapebetween.tornlogs import TornLog
from shapebetween.turning import Keep
from shapebetween.weaktrees import WeakTree


def any_values():
    """Values of many kinds, none of them of use as a key, a lot, a row, a text or a number."""
    return [
        None, True, False, "", "a", "x y", (True,), (False, 1), (None,), ("1",), [], [1], [0, 1], {}, {1: 2},
        ((1,),), ((), (1, (2, [3, {4: "5"}]))), [None], Row((1, 2)), Shape(1, 2), WeakTree((1, 2), (0, 0)), Shape(),
        (Row((1,)),), (Shape(1),), [WeakTree((1,), (0,))], (2, 1), (1, 1), (-1,), (1000,), (1, 2, 2), -1, 10 ** 39,
        Script((1, 2)), Script((1, 2), ((1,),)), [Script(())], Store((1,)), Keep(), {"a": Form(Script((1,)))},
        Meeting(WeakTree((1,), (0,)), WeakTree((1,), (0,))), Recipe((1,)), Program((1,), ("a",)), Runs(Script((1,))),
        Bench(), Looker(), TornLog((1,), ("#",)), (TornLog((1, 2)),),
    ]


def no_numbers():
    """Values of many kinds that are no numbers."""
    return [value for value in any_values() if isinstance(value, bool) or not isinstance(value, int)]


class PlainCase(unittest.TestCase):
    """A test case that compares errors with their values."""

    def check_raises(self, error, function, *args, **named):
        """The call raises an error of the class of the given one, with the same values of the same kinds."""
        with self.assertRaises(type(error)) as caught:
            function(*args, **named)
        raised = caught.exception
        self.assertIs(type(raised), type(error))
        self.assertEqual(repr(vars(raised)), repr(vars(error)))
        for name, value in vars(error).items():
            self.assertIs(type(getattr(raised, name)), type(value))


def key_sets(size):
    """Some key sets of a size: with 0, with 999, with gaps, without."""
    found = [tuple(range(size)), tuple(range(1000 - size, 1000)), tuple(3 + 7 * at for at in range(size))]
    return sorted(set(found))


def lots_of(keys):
    """All lots of some keys, by size, then as tuples."""
    return [lot for size in range(1, len(keys) + 1) for lot in itertools.combinations(keys, size)]


# A plain tree is None or a tuple (key, left, right).

def inserted(tree, key):
    if tree is None:
        return (key, None, None)
    top, left, right = tree
    if key < top:
        return (top, inserted(left, key), right)
    return (top, left, inserted(right, key))


def plain_tree(order):
    tree = None
    for key in order:
        tree = inserted(tree, key)
    return tree


def plain_trees(keys):
    """All plain trees on some keys, by tops, then left parts, then right parts."""
    if not keys:
        return [None]
    return [(top, left, right) for at, top in enumerate(keys)
            for left in plain_trees(keys[:at]) for right in plain_trees(keys[at + 1:])]


def keys_of(tree):
    if tree is None:
        return ()
    return keys_of(tree[1]) + (tree[0],) + keys_of(tree[2])


def order_of(tree):
    if tree is None:
        return []
    return [tree[0]] + order_of(tree[1]) + order_of(tree[2])


def path_of(tree, key):
    if key == tree[0]:
        return (key,)
    return (tree[0],) + path_of(tree[1] if key < tree[0] else tree[2], key)


def paths_of(tree):
    return {key: path_of(tree, key) for key in keys_of(tree)}


def top_of(tree, one, other):
    """The top of a stretch: the one of its keys that is above all its others."""
    low, high = min(one, other), max(one, other)
    stretch = [key for key in keys_of(tree) if low <= key <= high]
    paths = paths_of(tree)
    return [key for key in stretch if all(key in paths[x] for x in stretch)][0]


def text_of(tree):
    """The text of a nonempty plain tree."""
    words = []
    if tree[1] is not None:
        words.append("[" + text_of(tree[1]) + "]")
    words.append(str(tree[0]))
    if tree[2] is not None:
        words.append("[" + text_of(tree[2]) + "]")
    return " ".join(words)


def shape_of(tree):
    return Shape(*order_of(tree))


def shapes_on(keys):
    """All shapes on some keys, in order."""
    return [shape_of(tree) for tree in plain_trees(keys)]


def weak_text(keys, numbers):
    """The text of a nonempty weak tree, by its block and its gaps."""
    greatest = max(numbers)
    words, gap = [], []

    def close():
        if gap:
            words.append("[" + weak_text([key for key, _ in gap], [number for _, number in gap]) + "]")
            gap.clear()

    for key, number in zip(keys, numbers):
        if number == greatest:
            close()
            words.append(str(key))
        else:
            gap.append((key, number))
    close()
    return " ".join(words)


def weak_tops(keys, numbers, one, other):
    low, high = min(one, other), max(one, other)
    stretch = [(number, key) for key, number in zip(keys, numbers) if low <= key <= high]
    greatest = max(stretch)[0]
    return tuple(key for number, key in stretch if number == greatest)


def weak_needs(keys, numbers, key):
    return tuple(k for k in keys if k != key and weak_tops(keys, numbers, k, key) == (k,))


def weak_numbers(tree):
    """A row of numbers that gives the weak tree."""
    return [-level for level in tree.levels()]


def plainly_closed(tree, lot):
    numbers = weak_numbers(tree)
    return all(needed in lot for key in lot for needed in weak_needs(tree.living, numbers, key))


def number_rows(size, many=None):
    """All rows of so many numbers from 0 to size - 1: they give all weak trees."""
    return itertools.product(range(many or max(size, 1)), repeat=size)


def weak_trees_on(keys):
    """All weak trees on some keys, each once, by their texts."""
    found = {}
    for numbers in number_rows(len(keys)):
        tree = WeakTree(keys, numbers)
        found[tree.text()] = tree
    return list(found.values())


def rows_near(living, others):
    """All rows whose lots have keys of living and of others, with all marks."""
    found = []
    for lot in lots_of(tuple(sorted(set(living) | set(others)))):
        found.append(Row(lot))
        for key in lot:
            found.append(Row(lot, coming=key))
            found.append(Row(lot, going=key))
    return found
