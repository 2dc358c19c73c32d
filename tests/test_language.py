"""The package against measures of LANGUAGE.md that can be seen in the text of its files."""

import ast
import builtins
import pathlib
import unittest

FOLDER = pathlib.Path(__file__).resolve().parent.parent / "shapebetween"
FILES = {path.stem: path.read_text(encoding="utf-8") for path in sorted(FOLDER.glob("*.py"))}
TREES = {name: ast.parse(text) for name, text in FILES.items()}

BUILTINS = {
    "len", "range", "enumerate", "zip", "min", "max", "sum", "abs", "sorted", "reversed", "int", "str", "bool", "list",
    "tuple", "dict", "set", "isinstance", "ord", "repr", "any", "all", "divmod", "iter", "ValueError", "LookupError",
    "IndexError", "TypeError", "NotImplemented",
}
METHODS = set("""
    append clear copy count endswith extend find get index insert isalnum isalpha isdigit islower isspace isupper items
    join keys ljust lower lstrip partition pop remove replace reverse rfind rjust rpartition rsplit rstrip setdefault
    split splitlines startswith strip update upper values zfill
""".split())
DOUBLE = {
    "__init__", "__eq__", "__repr__", "__str__", "__len__", "__call__", "__iter__", "__contains__", "__bool__",
    "__add__", "__mul__", "__rmul__", "__getitem__", "__setitem__",
}
BARRED_NAMES = set("""
    register mro elements open input law version_info with_traceback add_note attrgetter breakpoint builtins compile
    copyright credits delattr dir eval exec exit gc globals help id importlib license locals methodcaller os quit
    setattr super vars sys _cold _tuplegetter _outside _record _written_out _member_names
""".split())
BARRED_WORDS = set("""
    type typing typing_extensions enum Enum IntEnum StrEnum Flag IntFlag Generic Protocol ABC ABCMeta namedtuple
    NamedTuple TypedDict TYPE_CHECKING abstractmethod
""".split())
CHANGING = {"append", "clear", "extend", "insert", "pop", "remove", "reverse", "setdefault", "update"}
LISTED_AT_ONCE = {"any", "all", "min", "max", "sum", "sorted"}


def all_nodes(kinds):
    return [(name, node) for name, tree in TREES.items() for node in ast.walk(tree) if isinstance(node, kinds)]


def where(name, node):
    return f"{name}.py, row {node.lineno}"


class TestFiles(unittest.TestCase):
    def test_folder(self):
        for path in FOLDER.iterdir():
            if path.name != "__pycache__":
                self.assertEqual(path.suffix, ".py")
                self.assertEqual(path.name, path.name.lower())
        self.assertIn("__init__", FILES)

    def test_size(self):
        for name, text in FILES.items():
            rows = text.split("\n")
            self.assertLessEqual(len(rows) - 1, 399, name)
            self.assertLessEqual(max(len(row) for row in rows), 120, name)
        for name, node in all_nodes(ast.FunctionDef):
            self.assertLessEqual(node.end_lineno - node.lineno + 1, 40, where(name, node))

    def test_characters(self):
        for name, text in FILES.items():
            self.assertEqual([sign for sign in text if sign != "\n" and not " " <= sign <= "~"], [], name)
            self.assertTrue(text.endswith("\n") and not text.endswith("\n\n"), name)
            self.assertNotIn("_wall", text)

    def test_imports(self):
        for name, tree in TREES.items():
            body = tree.body[1:] if ast.get_docstring(tree) else tree.body
            imports = [node for node in body if isinstance(node, ast.ImportFrom)]
            self.assertEqual(body[:len(imports)], imports, name)
            for node in imports:
                self.assertEqual(node.level, 0, where(name, node))
                package, file = node.module.split(".")
                self.assertEqual(package, "shapebetween", where(name, node))
                there = [n.name for n in TREES[file].body if isinstance(n, (ast.FunctionDef, ast.ClassDef))]
                there += [n.targets[0].id for n in TREES[file].body if isinstance(n, ast.Assign)]
                for word in node.names:
                    self.assertIn(word.name, there, where(name, node))
                    self.assertIsNone(word.asname, where(name, node))
        found = [node for _, node in all_nodes((ast.Import, ast.ImportFrom))]
        top = [node for tree in TREES.values() for node in tree.body if isinstance(node, (ast.Import, ast.ImportFrom))]
        self.assertEqual(len(found), len(top))

    def test_no_import_in_a_circle(self):
        needs = {name: {node.module.split(".")[1] for node in tree.body if isinstance(node, ast.ImportFrom)}
                 for name, tree in TREES.items()}
        while needs:
            free = [name for name, others in needs.items() if not others & set(needs)]
            self.assertTrue(free, needs)
            needs = {name: others for name, others in needs.items() if name not in free}

    def test_imports_are_used(self):
        for name, tree in TREES.items():
            used = {node.id for node in ast.walk(tree) if isinstance(node, ast.Name)}
            for node in tree.body:
                if isinstance(node, ast.ImportFrom):
                    for word in node.names:
                        self.assertIn(word.name, used, where(name, node))


class TestStatements(unittest.TestCase):
    def test_module_level(self):
        for name, tree in TREES.items():
            bound = []
            for at, node in enumerate(tree.body):
                plain = isinstance(node, (ast.ImportFrom, ast.FunctionDef, ast.ClassDef, ast.Assign))
                self.assertTrue(plain or (at == 0 and isinstance(node, ast.Expr)), where(name, node))
                if isinstance(node, ast.ImportFrom):
                    bound += [word.name for word in node.names]
                elif isinstance(node, ast.Assign):
                    bound += [target.id for target in node.targets]
                    calls = [part for part in ast.walk(node.value) if isinstance(part, (ast.Call, ast.ListComp))]
                    self.assertEqual(calls, [], where(name, node))
                elif not isinstance(node, ast.Expr):
                    bound.append(node.name)
            self.assertEqual(len(bound), len(set(bound)), name)

    def test_kinds_that_are_not_used(self):
        barred = (ast.Lambda, ast.GeneratorExp, ast.Global, ast.Nonlocal, ast.With, ast.Match, ast.AugAssign,
                  ast.AnnAssign, ast.Delete, ast.NamedExpr, ast.AsyncFunctionDef, ast.Await, ast.Div, ast.Pow, ast.Mod,
                  ast.Set, ast.SetComp, ast.Import)
        signs = (ast.Is, ast.IsNot)
        for name, node in all_nodes(barred):
            self.fail(f"{type(node).__name__}: {where(name, node) if hasattr(node, 'lineno') else name}")
        for name, node in all_nodes(ast.Compare):
            for sign, right in zip(node.ops, node.comparators):
                if isinstance(sign, signs):
                    self.assertIn(ast.unparse(right), ("None", "True", "False"), where(name, node))

    def test_constants(self):
        for name, node in all_nodes(ast.Constant):
            self.assertNotIsInstance(node.value, (float, complex, bytes), where(name, node))
            if isinstance(node.value, str):
                self.assertNotIn("%", node.value, where(name, node))
                self.assertFalse(BARRED_WORDS & set(node.value.replace("(", " ").split()), where(name, node))

    def test_decorators_and_nesting(self):
        for name, node in all_nodes((ast.FunctionDef, ast.ClassDef)):
            words = [ast.unparse(word) for word in node.decorator_list]
            self.assertIn(words, ([], ["staticmethod"], ["property"]), where(name, node))
        for name, node in all_nodes(ast.FunctionDef):
            inner = [part for part in ast.walk(node) if isinstance(part, (ast.FunctionDef, ast.ClassDef))]
            self.assertEqual(inner, [node], where(name, node))
            annotated = [arg for arg in node.args.args + node.args.kwonlyargs if arg.annotation]
            self.assertEqual((annotated, node.returns), ([], None), where(name, node))

    def test_errors_are_made_and_caught_by_name(self):
        for name, node in all_nodes(ast.Raise):
            plain = isinstance(node.exc, ast.Call) and isinstance(node.exc.func, ast.Name)
            self.assertTrue(plain and node.cause is None, where(name, node))
        for name, node in all_nodes(ast.ExceptHandler):
            words = node.type.elts if isinstance(node.type, ast.Tuple) else [node.type]
            for word in words:
                self.assertFalse(hasattr(builtins, word.id), where(name, node))

    def test_loops_do_not_change_what_they_go_over(self):
        for name, node in all_nodes(ast.For):
            over = ast.unparse(node.iter)
            for part in ast.walk(node):
                if isinstance(part, ast.Call) and isinstance(part.func, ast.Attribute):
                    if part.func.attr in ("append", "pop", "clear", "update"):
                        self.assertNotEqual(ast.unparse(part.func.value), over, where(name, part))


class TestNames(unittest.TestCase):
    def test_builtins(self):
        for name, node in all_nodes(ast.Name):
            if hasattr(builtins, node.id):
                self.assertIsInstance(node.ctx, ast.Load, where(name, node))
                self.assertIn(node.id, BUILTINS | {"staticmethod", "property"}, where(name, node))

    def test_own_names(self):
        words = []
        for name, node in all_nodes((ast.FunctionDef, ast.ClassDef, ast.arg, ast.Name, ast.Attribute)):
            word = getattr(node, "name", None) or getattr(node, "arg", None) or getattr(node, "id", None) or node.attr
            words.append((name, node, word))
        for name, node, word in words:
            self.assertNotIn(word, BARRED_NAMES | BARRED_WORDS, where(name, node))
            self.assertTrue(not word.startswith("__") or word in DOUBLE, where(name, node))
            if isinstance(node, (ast.FunctionDef, ast.ClassDef, ast.arg)) and word not in DOUBLE:
                self.assertFalse(hasattr(builtins, word), where(name, node))

    def test_locals_hide_no_class_or_import(self):
        for name, tree in TREES.items():
            taken = {word.name for node in tree.body if isinstance(node, ast.ImportFrom) for word in node.names}
            taken |= {node.name for node in tree.body if isinstance(node, (ast.ClassDef, ast.FunctionDef))}
            for node in ast.walk(tree):
                if isinstance(node, ast.arg):
                    self.assertNotIn(node.arg, taken, where(name, node))
                if isinstance(node, ast.Name) and isinstance(node.ctx, ast.Store):
                    self.assertNotIn(node.id, taken, where(name, node))

    def test_methods_and_attributes(self):
        methods, attributes, static, generators = set(), set(), set(), set()
        for _, node in all_nodes(ast.ClassDef):
            for part in node.body:
                if isinstance(part, ast.FunctionDef):
                    (static if part.decorator_list else methods).add(part.name)
        for name, node in all_nodes(ast.FunctionDef):
            if any(isinstance(part, (ast.Yield, ast.YieldFrom)) for part in ast.walk(node)):
                generators.add(node.name)
        functions = [node.name for _, node in all_nodes(ast.FunctionDef)]
        for word in generators:
            self.assertEqual(functions.count(word), 1)
        for name, node in all_nodes(ast.Attribute):
            if isinstance(node.ctx, ast.Store):
                self.assertIsInstance(node.value, ast.Name, where(name, node))
                attributes.add(node.attr)
        self.assertEqual((methods & attributes, methods & static, attributes & static), (set(), set(), set()))
        for name, node in all_nodes(ast.Attribute):
            self.assertIn(node.attr, methods | attributes | static | METHODS, where(name, node))

    def test_calls(self):
        for name, node in all_nodes(ast.Call):
            word = getattr(node.func, "id", None)
            if word in LISTED_AT_ONCE:
                self.assertNotIsInstance(node.args[0], ast.GeneratorExp, where(name, node))
            for arg in node.args:
                if isinstance(arg, ast.Starred):
                    self.assertIsInstance(arg.value, (ast.Name, ast.Attribute), where(name, node))
            if isinstance(node.func, ast.Attribute) and node.func.attr in METHODS:
                self.assertEqual(node.keywords, [], where(name, node))

    def test_ranges_and_zips_are_iterated_at_once(self):
        for name, tree in TREES.items():
            over = set()
            for node in ast.walk(tree):
                if isinstance(node, (ast.For, ast.comprehension)):
                    over.add(id(node.iter))
                if isinstance(node, ast.Call) and getattr(node.func, "id", "") in ("list", "tuple", "enumerate", "zip", "reversed"):
                    over.update(id(arg) for arg in node.args)
            for node in ast.walk(tree):
                if isinstance(node, ast.Call) and getattr(node.func, "id", "") in ("range", "zip", "enumerate"):
                    self.assertIn(id(node), over, where(name, node))

    def test_sets_are_sorted_on_the_spot(self):
        for name, tree in TREES.items():
            inside = set()
            for node in ast.walk(tree):
                if isinstance(node, ast.Call) and getattr(node.func, "id", "") == "sorted":
                    inside.update(id(part) for part in ast.walk(node.args[0]))
            for node in ast.walk(tree):
                if isinstance(node, ast.Call) and getattr(node.func, "id", "") == "set":
                    self.assertIn(id(node), inside, where(name, node))


def parts_of(node, kinds):
    return [part for part in ast.walk(node) if isinstance(part, kinds)]


def makes_a_list(value):
    """Whether an expression surely makes a list or a dict that nothing else holds."""
    if isinstance(value, (ast.List, ast.ListComp, ast.Dict, ast.DictComp)):
        return True
    if isinstance(value, ast.BinOp) and isinstance(value.op, ast.Mult):
        return isinstance(value.left, ast.List)
    if isinstance(value, ast.Subscript):
        return isinstance(value.slice, ast.Slice)
    return isinstance(value, ast.Call) and getattr(value.func, "id", "") in ("list", "dict", "sorted")


def assigned_values(node, word):
    """All values that a function assigns to a name; None for a loop, a parameter or a part of a tuple."""
    found = [None for arg in parts_of(node, ast.arg) if arg.arg == word]
    for part in parts_of(node, (ast.Assign, ast.For)):
        for target in part.targets if isinstance(part, ast.Assign) else [part.target]:
            if getattr(target, "id", "") == word:
                found.append(part.value if isinstance(part, ast.Assign) else None)
            elif any(getattr(name, "id", "") == word and isinstance(name.ctx, ast.Store) for name in ast.walk(target)):
                found.append(None)
    return found


class TestOperators(unittest.TestCase):
    """Operators, properties and the like, and all that they call, change only what they created."""

    def setUp(self):
        self.methods, self.functions, self.classes = {}, {}, {}
        for name, tree in TREES.items():
            for node in tree.body:
                if isinstance(node, ast.FunctionDef):
                    self.functions[node.name] = (name, node)
                if isinstance(node, ast.ClassDef):
                    self.classes[node.name] = (name, node)
                    for part in parts_of(node, ast.FunctionDef):
                        self.methods.setdefault(part.name, []).append((name, part))

    def called_from(self, node):
        found = []
        for call in parts_of(node, ast.Call):
            word = getattr(call.func, "id", None) or getattr(call.func, "attr", None)
            if word in self.functions:
                found.append(self.functions[word])
            if word in self.classes:
                found += [(self.classes[word][0], part) for part in self.classes[word][1].body
                          if getattr(part, "name", "") == "__init__"]
            if isinstance(call.func, ast.Attribute) and word not in METHODS:
                found += self.methods.get(word, [])
        return found

    def reached(self):
        ahead = [(name, part) for name, tree in TREES.items() for part in parts_of(tree, ast.FunctionDef)
                 if (part.name in DOUBLE and part.name not in ("__init__", "__call__", "__iter__", "__setitem__"))
                 or "property" in [ast.unparse(word) for word in part.decorator_list]]
        found = {}
        while ahead:
            name, node = ahead.pop()
            if (name, node.lineno) not in found:
                found[name, node.lineno] = (name, node)
                ahead += self.called_from(node)
        return list(found.values())

    def test_only_what_was_created_is_changed(self):
        reached = self.reached()
        self.assertGreater(len(reached), 80)
        for name, node in reached:
            for part in parts_of(node, (ast.Attribute, ast.Subscript)):
                if isinstance(part.ctx, ast.Store):
                    self.check_target(name, node, part)
            for call in parts_of(node, ast.Call):
                if getattr(call.func, "attr", "") in CHANGING:
                    self.assertTrue(self.is_created(node, call.func.value), where(name, call))
            self.assertEqual(parts_of(node, (ast.Yield, ast.YieldFrom)), [], where(name, node))

    def check_target(self, name, node, part):
        if isinstance(part, ast.Subscript):
            self.assertTrue(self.is_created(node, part.value), where(name, part))
        elif node.name == "__init__":
            self.assertEqual(part.value.id, "self", where(name, part))
        else:
            calls = [getattr(value.func, "id", "") for value in assigned_values(node, part.value.id)]
            self.assertTrue(calls and all(word in self.classes for word in calls), where(name, part))

    def is_created(self, node, value):
        if not isinstance(value, ast.Name):
            return False
        values = assigned_values(node, value.id)
        return bool(values) and all(other is not None and makes_a_list(other) for other in values)

    def test_forms_of_double_underscore_methods(self):
        for name, node in all_nodes(ast.FunctionDef):
            if node.name in ("__len__", "__repr__", "__str__", "__bool__"):
                self.assertIsInstance(node.body[-1], ast.Return, where(name, node))
            if node.name in ("__len__", "__repr__", "__str__", "__eq__"):
                self.assertEqual(parts_of(node, (ast.Assign, ast.For)), [], where(name, node))
            if node.name == "__len__":
                self.assertEqual(ast.unparse(node.body[-1])[:11], "return len(", where(name, node))
            if node.name == "__bool__":
                self.assertTrue(ast.unparse(node.body[-1]).startswith(("return True", "return bool(")))
            if node.name in ("__repr__", "__str__"):
                for part in parts_of(node, ast.Return):
                    plain = isinstance(part.value, (ast.JoinedStr, ast.Constant))
                    self.assertTrue(plain, where(name, part))
        for name, node in all_nodes(ast.ClassDef):
            words = [part.name for part in node.body if isinstance(part, ast.FunctionDef)]
            if "__getitem__" in words:
                self.assertIn("__iter__", words, where(name, node))
        self.assertNotIn("keys", self.methods)

    def test_no_name_is_a_property_and_an_attribute(self):
        words = {part.name for _, part in all_nodes(ast.FunctionDef)
                 if "property" in [ast.unparse(word) for word in part.decorator_list]}
        values = {node.targets[0].id for _, top in all_nodes(ast.ClassDef) for node in top.body
                  if isinstance(node, ast.Assign)}
        self.assertEqual(values, {"MOST", "word"})
        for name, node in all_nodes(ast.Attribute):
            if isinstance(node.ctx, ast.Store):
                self.assertNotIn(node.attr, words | values, where(name, node))
        self.assertFalse(words & set(self.functions) | values & set(self.methods))


if __name__ == "__main__":
    unittest.main()
