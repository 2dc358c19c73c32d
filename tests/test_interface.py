"""The interface of DOC.md: names, arguments, and where each function, class and method is defined."""

import importlib
import inspect
import unittest

FUNCTIONS = {
    "limits": ["limit_of(what)", "check_limit(what, count)"],
    "lots": ["is_key(value)", "is_key_set(value)", "is_lot(value)", "is_name(value)",
             "stretch_between(living, one, other)", "neighbours_of(living, key)"],
    "rows": ["as_row(value)", "check_fits(living, row)", "living_behind(living, row)"],
    "steps": ["step(shape, row, arranged)", "is_step(earlier, row, later)", "arranged_by(later, row)"],
    "shapenumbers": ["shape_count(size)", "shape_at(living, number)", "shape_number(shape)", "all_shapes(living)"],
    "closed": ["is_closed(tree, lot)", "missing_need(tree, lot)", "closed_around(tree, lot)", "closed_count(tree)",
               "closed_lots(tree)", "closed_at(tree, number)", "closed_number(tree, lot)"],
    "resolving": ["resolves(tree, shape)", "resolving_count(tree)", "resolving_shapes(tree)",
                  "resolving_at(tree, number)", "resolving_number(tree, shape)"],
    "treenumbers": ["tree_count(size)", "tree_at(living, number)", "tree_number(tree)", "all_trees(living)"],
    "follow": ["past_behind_row(tree, row)", "future_ahead_of_row(row, tree)", "can_follow(tree, row)",
               "least_touching(tree, lot)", "least_coming(tree, key)", "least_going(tree, key)"],
    "parting": ["parting_lot(one, other)"],
}
GENERATORS = {"all_shapes", "closed_lots", "resolving_shapes", "all_trees"}
CLASSES = {
    ("rows", "Row", "(lot, *, coming=None, going=None)"): [
        "lot_before(self)", "lot_after(self)", "backward(self)", "text(self)", "read(text)", "__str__(self)",
        "__repr__(self)", "__iter__(self)", "__contains__(self, key)", "__len__(self)", "__eq__(self, other)"],
    ("shapes", "Shape", "(*order)"): [
        "order(self)", "left(self)", "right(self)", "path(self, key)", "depth(self, key)", "parent(self, key)",
        "is_above(self, upper, lower)", "top_of(self, one, other)", "cut(self, one, other)",
        "is_top_part(self, part)", "missed_top(self, part)", "mirrored(self)", "text(self)", "read(text)",
        "__str__(self)", "__repr__(self)", "__contains__(self, key)", "__len__(self)", "__eq__(self, other)"],
    ("weaktrees", "WeakTree", "(living, numbers)"): [
        "gaps(self)", "levels(self)", "tops(self, one, other)", "needs(self, key)", "cut(self, one, other)",
        "kept(self, lot)", "level(living)", "of_shape(shape)", "read(text)", "text(self)", "mirrored(self)",
        "__str__(self)", "__repr__(self)", "__len__(self)", "__eq__(self, other)"],
}
STATIC = {"read", "level", "of_shape"}


class TestInterface(unittest.TestCase):
    def test_functions(self):
        for file, calls in FUNCTIONS.items():
            module = importlib.import_module(f"shapebetween.{file}")
            for call in calls:
                name, rest = call.split("(", 1)
                function = getattr(module, name)
                self.assertEqual(function.__module__, module.__name__, name)
                self.assertEqual(str(inspect.signature(function)), "(" + rest)
                self.assertIs(inspect.isgeneratorfunction(function), name in GENERATORS, name)

    def test_classes(self):
        for (file, name, call), methods in CLASSES.items():
            kind = getattr(importlib.import_module(f"shapebetween.{file}"), name)
            self.assertEqual(kind.__module__, f"shapebetween.{file}")
            self.assertEqual(str(inspect.signature(kind)), call)
            for method in methods:
                word, rest = method.split("(", 1)
                found = kind.__dict__[word]
                self.assertIs(isinstance(found, staticmethod), word in STATIC, word)
                plain = found.__func__ if word in STATIC else found
                self.assertEqual(str(inspect.signature(plain)), "(" + rest, word)


if __name__ == "__main__":
    unittest.main()
