"""The interface of DOC.md: names, arguments, and where each function, class and method is defined."""

import importlib
import inspect
import unittest

from shapebetween.forms import Form
from shapebetween.meeting import Meeting
from shapebetween.programs import Program
from shapebetween.recipes import Recipe
from shapebetween.runs import Runs
from shapebetween.scripts import Script
from shapebetween.tornlogs import TornLog, torn_from

FUNCTIONS = {
    "limits": ["limit_of(what)", "check_limit(what, count)"],
    "lots": ["is_key(value)", "is_key_set(value)", "is_lot(value)", "is_name(value)",
             "stretch_between(living, one, other)", "neighbours_of(living, key)"],
    "rows": ["as_row(value)", "check_fits(living, row)", "living_behind(living, row)"],
    "steps": ["step(shape, row, arranged)", "is_step(earlier, row, later)", "arranged_by(later, row)"],
    "shapenumbers": ["shape_count(size)", "shape_at(living, number)", "shape_number(shape)", "all_shapes(living)"],
    "closed": ["is_closed(tree, lot)", "missing_need(tree, lot)", "closed_around(tree, lot)", "closed_count(tree)",
               "closed_lots(tree)", "closed_at(tree, number)", "closed_number(tree, lot)"],
    "resolving": ["resolves(tree, shape)", "resolving_count(tree)", "resolving_shapes(tree)",
                  "resolving_at(tree, number)", "resolving_number(tree, shape)"],
    "treenumbers": ["tree_count(size)", "tree_at(living, number)", "tree_number(tree)", "all_trees(living)"],
    "follow": ["past_behind_row(tree, row)", "future_ahead_of_row(row, tree)", "can_follow(tree, row)",
               "least_touching(tree, lot)", "least_coming(tree, key)", "least_going(tree, key)"],
    "parting": ["parting_lot(one, other)"],
    "depths": ["above(meeting, upper, lower, *, how='surely')", "depth_row(meeting, key)",
               "least_depth(meeting, key)", "greatest_depth(meeting, key)", "surely_pairs(meeting)"],
    "runs": ["run_fault(script, shapes)"],
    "playing": ["play(script, shape, rule)", "plays(script, shape, rule)"],
    "surroundings": ["past_behind(past, form)", "future_ahead(form, future)", "fits_between(past, form, future)",
                     "parting_surroundings(one, other)"],
    "badwalks": ["is_safe(program)", "bad_walk(program)", "bad_pair(program)"],
    "tables": ["least_table(program)", "waiting(program)", "table_fault(program, table)"],
    "standings": ["standings(program)"],
    "mending": ["mended(program)"],
    "weaving": ["weaving_count(first, *others)", "weavings(first, *others)", "weaving_at(number, first, *others)",
                "woven(first, *others)"],
    "lazy": ["lazy_script(wishes, *, side='both')", "holds(script, wishes)", "last_touches(script)", "leaning(script)"],
    "gates": ["gates_of(wishes, *, side='rising')", "is_gate(wishes, gate)", "are_apart(wishes, one, other)",
              "lower_bound(wishes)", "gates_fault(wishes, gates)"],
    "prices": ["price(wishes, *, most=5)", "cheapest(wishes, *, most=5)", "box_cells(wishes, clash)"],
    "pricepapers": ["price_paper(wishes, most)", "price_fault(wishes, most, paper)"],
    "views": ["backward(script)", "mirrored(script)", "cut_moments(script, start, stop)",
              "cut_keys(script, one, other)", "exchanged(script)", "keys_merged(script, key)",
              "moments_merged(script, moment)", "walled(one, other, wall)"],
    "tornlogs": ["torn_from(script, cells)"],
    "tornpapers": ["torn_paper(log)", "torn_fault(log, paper)"],
}
GENERATORS = {"all_shapes", "closed_lots", "resolving_shapes", "all_trees", "common_shapes", "walk_all", "weavings",
              "fillings"}
RULE = ["ordered(self, shape, row, rest)", "__call__(self, shape, row, rest)", "favourites(self)", "__repr__(self)"]
CLASSES = {
    ("rows", "Row", "(lot, *, coming=None, going=None)"): [
        "lot_before(self)", "lot_after(self)", "backward(self)", "text(self)", "read(text)", "__str__(self)",
        "__repr__(self)", "__iter__(self)", "__contains__(self, key)", "__len__(self)", "__eq__(self, other)"],
    ("shapes", "Shape", "(*order)"): [
        "order(self)", "left(self)", "right(self)", "path(self, key)", "depth(self, key)", "parent(self, key)",
        "is_above(self, upper, lower)", "top_of(self, one, other)", "cut(self, one, other)",
        "is_top_part(self, part)", "missed_top(self, part)", "mirrored(self)", "text(self)", "read(text)",
        "__str__(self)", "__repr__(self)", "__contains__(self, key)", "__len__(self)", "__eq__(self, other)"],
    ("weaktrees", "WeakTree", "(living, numbers)"): [
        "gaps(self)", "levels(self)", "tops(self, one, other)", "needs(self, key)", "cut(self, one, other)",
        "kept(self, lot)", "level(living)", "of_shape(shape)", "read(text)", "text(self)", "mirrored(self)",
        "__str__(self)", "__repr__(self)", "__len__(self)", "__eq__(self, other)"],
    ("scripts", "Script", "(living, rows=())"): [
        "rows(self)", "living_at(self, moment)", "__getitem__(self, at)", "__iter__(self)", "first_crosswise(self)",
        "all_crosswise(self)", "is_crosswise(self, value)", "first_marked(self)", "touches(self)",
        "__add__(self, other)", "__mul__(self, other)", "__rmul__(self, other)", "text(self)", "__str__(self)",
        "read(text)", "__eq__(self, other)", "__len__(self)", "__bool__(self)", "__repr__(self)"],
    ("stores", "Store", "(living=())"): [
        "apply(self, row)", "touch(self, *touched)", "come(self, key, *others)", "go(self, key, *others)",
        "can(self, row)", "least_touch(self, lot)", "least_come(self, key)", "least_go(self, key)",
        "past_rows(self)", "twin(self)", "begun_with(self)", "__contains__(self, key)", "__len__(self)",
        "__bool__(self)", "__repr__(self)"],
    ("twoends", "TwoEnds", "(living=())"): [
        "put_last(self, row)", "put_first(self, row)", "can_last(self, row)", "can_first(self, row)",
        "joined(self, other)", "written_out(self)", "__len__(self)", "__bool__(self)", "__repr__(self)"],
    ("meeting", "Meeting", "(past, future)"): [
        "shared(self, one, other)", "all_crossing(self)", "common_shapes(self)", "common_at(self, number)",
        "number_of(self, shape)", "__len__(self)", "__bool__(self)", "__repr__(self)"],
    ("runs", "Runs", "(script, *, told=None)"): [
        "choices(self)", "run_at(self, number)", "run_number(self, shapes)", "walk_all(self)", "__len__(self)",
        "__bool__(self)", "__repr__(self)"],
    ("turning", "Keep", "()"): RULE,
    ("turning", "Halves", "()"): RULE,
    ("turning", "Lift", "(*favourites)"): RULE + ["__init__(self, *favourites)"],
    ("turning", "Soonest", "()"): RULE,
    ("forms", "Form", "(script)"): [
        "__add__(self, other)", "__mul__(self, other)", "__rmul__(self, other)", "__eq__(self, other)",
        "is_idle(self, one, other)", "__len__(self)", "__bool__(self)", "__repr__(self)"],
    ("recipes", "Recipe", "(living, rules=())"): [
        "rules(self)", "names(self)", "with_rule(self, name, items)", "form(self, name)", "moments(self, name)",
        "touches(self, name)", "lot_at(self, name, moment)", "written(self, name)", "text(self)", "__str__(self)",
        "read(text)", "__contains__(self, name)", "__eq__(self, other)", "__len__(self)", "__bool__(self)",
        "__repr__(self)"],
    ("programs", "Program", "(living, nodes, edges=())"): [
        "nodes(self)", "edges(self)", "leaving(self, node)", "end_of(self, walk)", "script_of(self, walk)",
        "__eq__(self, other)", "__len__(self)", "__repr__(self)"],
    ("tornlogs", "TornLog", "(living, rows=())"): [
        "rows(self)", "__iter__(self)", "__getitem__(self, at)", "__setitem__(self, at, worth)",
        "write(self, moment, key, word)", "unread_cells(self)", "filling_count(self)", "can_be(self)",
        "fillings(self)", "filling_at(self, number)", "sure_cells(self)", "is_filling(self, script)", "twin(self)",
        "__len__(self)", "__bool__(self)", "__repr__(self)"],
    ("benches", "Bench", "()"): [
        "do(self, deed)", "undo(self)", "redo(self)", "play(self, deeds)", "begin(self)", "keep(self)",
        "cancel(self)", "names(self)", "store(self, name)", "journal(self)", "report(self)", "twin(self)",
        "__contains__(self, name)", "__len__(self)", "__bool__(self)", "__repr__(self)"],
    ("lookers", "Looker", "()"): [
        "look(self, paper)", "look_all(self, *papers)", "faults(self)", "__len__(self)", "__bool__(self)",
        "__repr__(self)"],
}
PROPERTIES = {"stores.Store": ["tree", "present", "next_count", "age"],
              "twoends.TwoEnds": ["past_tree", "future_tree", "at_begin", "at_end"],
              "benches.Bench": ["drafting"], "lookers.Looker": ["held", "refused"]}
ATTRIBUTES = {"scripts.Script": ["living", "end", "feasible", "past", "future"],
              "meeting.Meeting": ["living", "past", "future", "meets", "crossing", "total"],
              "runs.Runs": ["script", "total"], "forms.Form": ["living", "feasible", "past", "future", "idle"],
              "recipes.Recipe": ["living"], "programs.Program": ["living", "start"],
              "tornlogs.TornLog": ["living"]}
STATIC = {"read", "level", "of_shape"}


class TestInterface(unittest.TestCase):
    def test_functions(self):
        for file, calls in FUNCTIONS.items():
            module = importlib.import_module(f"shapebetween.{file}")
            for call in calls:
                name, rest = call.split("(", 1)
                function = getattr(module, name)
                self.assertEqual(function.__module__, module.__name__, name)
                self.assertEqual(str(inspect.signature(function)), "(" + rest)
                self.assertIs(inspect.isgeneratorfunction(function), name in GENERATORS, name)

    def test_classes(self):
        for (file, name, call), methods in CLASSES.items():
            kind = getattr(importlib.import_module(f"shapebetween.{file}"), name)
            self.assertEqual(kind.__module__, f"shapebetween.{file}")
            self.assertEqual(str(inspect.signature(kind)), call)
            for method in methods:
                word, rest = method.split("(", 1)
                found = kind.__dict__[word]
                self.assertIs(isinstance(found, staticmethod), word in STATIC, word)
                plain = found.__func__ if word in STATIC else found
                self.assertEqual(str(inspect.signature(plain)), "(" + rest, word)
                self.assertIs(inspect.isgeneratorfunction(plain), word in GENERATORS, word)

    def test_properties(self):
        for name, words in PROPERTIES.items():
            file, kind = name.split(".")
            for word in words:
                found = getattr(importlib.import_module(f"shapebetween.{file}"), kind).__dict__[word]
                self.assertIsInstance(found, property)
                self.assertIsNone(found.fset)

    def test_attributes_are_set_when_an_object_is_created(self):
        script = Script((1, 2), [(1,)])
        made = {"scripts.Script": [script, Script((1, 2), [(1,), (2,)])],
                "meeting.Meeting": [Meeting(script.past, script.future)], "runs.Runs": [Runs(script)],
                "forms.Form": [Form(script), Form(script) + Form(script), Form(Script((1, 2), [(1,), (2,)])),
                               Form(script) + Form(Script((1, 2), [(2,)]))],
                "recipes.Recipe": [Recipe((1, 2))], "programs.Program": [Program((1, 2), ["a"])],
                "tornlogs.TornLog": [TornLog((1, 2), ["#?"]), TornLog((1, 2)).twin(), torn_from(script, [])]}
        for name, words in ATTRIBUTES.items():
            for value in made[name]:
                for word in words:
                    self.assertIn(word, vars(value))


if __name__ == "__main__":
    unittest.main()
