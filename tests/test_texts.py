"""Promise [11]: the texts of shapes and weak trees, and the reading of them."""

import itertools

from shapebetween.errors import InvalidText, NotSearch, TooMany
from shapebetween.shapes import Shape
from shapebetween.weaktrees import WeakTree
from tests.plain import PlainCase, any_values, key_sets, shapes_on, weak_trees_on

SIGNS = "0123456789[] ."


def items_of(text):
    """The items of a text that are separated by spaces outside of brackets, None if brackets do not match."""
    items, depth = [""], 0
    for sign in text:
        depth += {"[": 1, "]": -1}.get(sign, 0)
        if depth < 0:
            return None
        if sign == " " and depth == 0:
            items.append("")
        else:
            items[-1] += sign
    return items if depth == 0 else None


def is_key_word(word):
    return word != "" and all(sign in "0123456789" for sign in word) and str(int(word)) == word and len(word) < 4


def is_tree(text, single):
    """Whether a text has the form of a nonempty tree, told item by item."""
    items = items_of(text)
    if items is None:
        return False
    pieces = [item[:1] == "[" and item[-1:] == "]" for item in items]
    keys = [is_key_word(item) for item in items]
    if not all(piece or key for piece, key in zip(pieces, keys)) or not any(keys):
        return False
    if any(one and other for one, other in zip(pieces, pieces[1:])) or (single and sum(keys) > 1):
        return False
    return all(is_tree(item[1:-1], single) for item, piece in zip(items, pieces) if piece)


def is_whole(text, single):
    return text == "." or is_tree(text, single)


def can_go_on(text, single):
    """Whether a text can be continued to one of the form: looked for among endings of all levels."""
    depth = max(0, text.count("[") - text.count("]"))
    for begin in ("", "1", " 1", "[1]", "[1] 1", " [1]"):
        for shutters in itertools.product(("]", "] 1"), repeat=depth):
            if is_tree(text + begin + "".join(shutters), single):
                return True
    return text in ("", ".")


class Outcomes:
    """What reading a text must do: kept by prefixes, so that long lists of texts are cheap."""

    def __init__(self, single):
        self.single = single
        self.known = {}

    def goes_on(self, text):
        if text not in self.known:
            self.known[text] = can_go_on(text, self.single)
        return self.known[text]

    def fault(self, text):
        if is_whole(text, self.single):
            numbers = [int(word) for word in text.replace("[", " ").replace("]", " ").split() if word != "."]
            if len(numbers) > 12:
                return TooMany("keys", len(numbers))
            for one, other in zip(numbers, numbers[1:]):
                if other <= one:
                    return NotSearch(other)
            return None
        for at in range(len(text)):
            if not self.goes_on(text[:at + 1]):
                return InvalidText(at)
        return InvalidText(len(text))


def changed_texts(text, signs=SIGNS):
    found = {text}
    for at in range(len(text) + 1):
        found.add(text[:at])
        found.add(text[:at] + text[at + 1:])
        for sign in signs:
            found.add(text[:at] + sign + text[at:])
            found.add(text[:at] + sign + text[at + 1:])
    return sorted(found)


class TestTexts(PlainCase):
    def check_text(self, kind, outcomes, text):
        error = outcomes.fault(text)
        if error is None:
            self.assertEqual(kind.read(text).text(), text)
        else:
            self.check_raises(error, kind.read, text)

    def test_every_short_text(self):
        for kind, single in ((Shape, True), (WeakTree, False)):
            outcomes = Outcomes(single)
            for size in range(7):
                for signs in itertools.product("01[] ", repeat=size):
                    self.check_text(kind, outcomes, "".join(signs))

    def test_changed_texts_of_shapes(self):
        outcomes = Outcomes(True)
        starts = [shape.text() for keys in ((1, 2, 3), (0, 10, 100, 999)) for shape in shapes_on(keys)]
        for start in starts:
            for text in changed_texts(start):
                self.check_text(Shape, outcomes, text)

    def test_changed_texts_of_weak_trees(self):
        outcomes = Outcomes(False)
        starts = [tree.text() for keys in ((1, 2, 3), (0, 10, 999)) for tree in weak_trees_on(keys)]
        starts += ["[1 2] 5 7 [9]", "1 [2 [3] 4] 5 [6]", "[[1] 2] 3 [4 5]"]
        for start in starts:
            for text in changed_texts(start):
                self.check_text(WeakTree, outcomes, text)

    def test_every_text_reads_back(self):
        for size in range(6):
            for keys in key_sets(size):
                for shape in shapes_on(keys):
                    self.assertEqual(Shape.read(shape.text()), shape)
                    self.assertEqual(WeakTree.read(shape.text()).text(), shape.text())
        for size in range(5):
            for keys in key_sets(size):
                for tree in weak_trees_on(keys):
                    self.assertEqual(WeakTree.read(tree.text()), tree)
                    self.assertEqual(str(tree), tree.text())

    def test_examples(self):
        self.check_raises(InvalidText(2), Shape.read, "1 2")
        self.assertEqual(Shape.read("[1] 2 [3]"), Shape(2, 1, 3))
        self.assertEqual(Shape.read(text="1 [[2] 3]").order(), [1, 3, 2])
        tree = WeakTree.read(text="[1 2] 5 7 [9]")
        self.assertEqual((tree.block, tree.living, tree.levels()), ((5, 7), (1, 2, 5, 7, 9), [1, 1, 0, 0, 1]))

    def test_exact_indexes(self):
        for text, at in {"": 0, "x": 0, " 1": 0, "]": 0, "-1": 0, "+1": 0, "\n": 0, "1\n": 1, "..": 1, ". ": 1, ".1": 1,
                         "1.": 1, "01": 1, "00": 1, "1000": 3, "1 ": 2, "[": 1, "[1": 2, "[1]": 3, "[1] ": 4, "[]": 1,
                         "[[1] 2]": 7, "[1] [": 4, "[1][": 3, "1[": 1, "1  ": 2, "[1]2": 3, "[.]": 1, "1 [.]": 3,
                         "[1 ]": 3, "1 ]": 2, "1]": 1, "[1] 2]": 5}.items():
            for kind in (Shape, WeakTree):
                self.check_raises(InvalidText(at), kind.read, text)
        for text, at in {"1 [2] ": 5, "1 [2] 3": 5, "1 [2] [3]": 5, "[1 2": 3, "[1] 2 3": 6, "[1 [2] ": 6}.items():
            self.check_raises(InvalidText(at), Shape.read, text)
        for text, at in {"1 [2] ": 6, "1 [2] [": 6, "1 [[2] [3]]": 7, "1 [2] 3 ": 8}.items():
            self.check_raises(InvalidText(at), WeakTree.read, text)

    def test_no_string(self):
        for value in any_values():
            if not isinstance(value, str):
                self.check_raises(InvalidText(0), Shape.read, value)
                self.check_raises(InvalidText(0), WeakTree.read, value)

    def test_too_many_keys(self):
        flat = " ".join(str(key) for key in range(13))
        self.check_raises(TooMany("keys", 13), WeakTree.read, flat)
        self.check_raises(TooMany("keys", 13), WeakTree.read, "1 " * 12 + "1")
        self.assertEqual(len(WeakTree.read(flat[:-3])), 12)
        deep = "".join(f"{key} [" for key in range(12)) + "12" + "]" * 12
        self.check_raises(TooMany("keys", 13), Shape.read, deep)
        self.check_raises(InvalidText(len(deep)), Shape.read, deep + "]")
        self.assertEqual(Shape.read(deep.replace(" [12]", "")), Shape(*range(12)))

    def test_not_ascending(self):
        for text, key in {"2 [1]": 1, "[2] 2": 2, "[3] 2 [1]": 2, "[1] 3 [[2] 1]": 2, "1 [3 [3]]": 3}.items():
            self.check_raises(NotSearch(key), Shape.read, text)
            self.check_raises(NotSearch(key), WeakTree.read, text)
        self.check_raises(NotSearch(0), WeakTree.read, "5 0 0")

    def test_deep_brackets(self):
        nest = "[" * 149 + "1" + "] 1" * 149
        self.check_raises(TooMany("keys", 150), Shape.read, nest)
        self.check_raises(TooMany("keys", 150), WeakTree.read, nest)
        self.check_raises(InvalidText(150), Shape.read, "[" * 150)
        self.check_raises(InvalidText(300), WeakTree.read, "[" * 300)
