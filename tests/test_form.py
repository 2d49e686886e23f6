"""The files of the package keep to those rules of LANGUAGE.md that a test can see in their text."""

import ast
import builtins
import pathlib
import re
import unittest

PACKAGE = pathlib.Path(__file__).resolve().parent.parent / "threeorders"
FILES = sorted(PACKAGE.glob("**/*.py"))
BUILTINS = {
    "len", "range", "enumerate", "zip", "min", "max", "sum", "abs", "sorted", "reversed", "int", "str", "bool",
    "list", "tuple", "dict", "set", "isinstance", "ord", "repr", "any", "all", "divmod", "iter", "next",
    "Exception", "ValueError", "TypeError", "KeyError", "IndexError", "LookupError", "NotImplemented", "property",
    "staticmethod", "classmethod",
}
METHODS = {
    "__init__", "__eq__", "__repr__", "__str__", "__len__", "__iter__", "__contains__", "__add__", "__or__", "__and__",
    "__bool__", "__call__",
}
LIBRARY = {"math": ("perm",)}
CHANGING = ("append", "extend", "insert", "remove", "pop", "clear", "sort", "reverse", "update", "setdefault", "put")
NODES_LEFT_OUT = (
    ast.AsyncFunctionDef, ast.AsyncFor, ast.AsyncWith, ast.Await, ast.GeneratorExp, ast.Global, ast.Div, ast.Mod,
)
WORDS_LEFT_OUT = re.compile(
    r"\b(typing|typing_extensions|enum|Enum|Generic|Protocol|ABC|namedtuple|register|mro|elements|open|input|law|"
    r"version_info|eval|exec|globals|locals|vars|dir|id|hash|help|exit|quit|super|compile)\b"
)


def trees():
    return [(path, ast.parse(path.read_text(encoding="utf-8"))) for path in FILES]


def functions_in(tree):
    return [node for node in ast.walk(tree) if isinstance(node, ast.FunctionDef)]


def bound_in(function):
    names = {node.arg for node in ast.walk(function) if isinstance(node, ast.arg)}
    return names | {node.id for node in ast.walk(function) if isinstance(node, ast.Name)
                    and isinstance(node.ctx, ast.Store)}


def defined_in(tree):
    names = [node.name for node in tree.body if isinstance(node, (ast.FunctionDef, ast.ClassDef))]
    return names + [node.targets[0].id for node in tree.body if isinstance(node, ast.Assign)]


def changed_by(node):
    """What a node stores into or calls a changing method of; None if it does neither."""
    if isinstance(node, ast.Call) and isinstance(node.func, ast.Attribute) and node.func.attr in CHANGING:
        return node.func.value
    if isinstance(node, (ast.Attribute, ast.Subscript)) and isinstance(node.ctx, ast.Store):
        return node
    return None


def is_property(function):
    return "property" in [ast.unparse(decorator) for decorator in function.decorator_list]


def reached_by_operators():
    """The functions that an operator, a property or a method like them may call, each with its file and class."""
    named = {}
    for path, tree in trees():
        for place in [tree, *[node for node in tree.body if isinstance(node, ast.ClassDef)]]:
            cls = getattr(place, "name", "")
            for function in [node for node in place.body if isinstance(node, ast.FunctionDef)]:
                name = cls if function.name == "__init__" else function.name
                named.setdefault(name, []).append((path.stem, cls, function))
    waiting = [found for name in METHODS - {"__init__", "__call__"} for found in named.get(name, [])]
    waiting += [found for each in named.values() for found in each if is_property(found[2])]
    reached = []
    while waiting:
        found = waiting.pop()
        if found not in reached:
            reached.append(found)
            for node in ast.walk(found[2]):
                if isinstance(node, ast.Call) and isinstance(node.func, (ast.Name, ast.Attribute)):
                    waiting += named.get(getattr(node.func, "id", None) or getattr(node.func, "attr", None), [])
    return reached


def imported_in(tree):
    return [alias.name for node in tree.body if isinstance(node, ast.ImportFrom) for alias in node.names]


class FilesTest(unittest.TestCase):
    def test_files(self):
        self.assertTrue(len(FILES) > 10)
        for path in PACKAGE.rglob("*"):
            if "__pycache__" not in path.parts:
                self.assertRegex(path.name, r"^[a-z_]+\.py$")

    def test_lines_and_characters(self):
        for path in FILES:
            text = path.read_bytes().decode("ascii")
            lines = text.split("\n")
            self.assertTrue(len(lines) <= 399 and text.endswith("\n"), path)
            for line in lines:
                self.assertTrue(len(line) <= 120 and line.isprintable() and line == line.rstrip(), (path, line))

    def test_sizes_of_functions(self):
        for path, tree in trees():
            for function in functions_in(tree):
                self.assertTrue(function.end_lineno - function.lineno < 40, (path, function.name))

    def test_signs_and_words(self):
        for path in FILES:
            self.assertNotIn("%", path.read_text())
            self.assertNotIn("~", path.read_text())
            for line in path.read_text().split("\n"):
                code = "" if line.strip().startswith('"""') or "#" in line else line
                self.assertIsNone(WORDS_LEFT_OUT.search(code), (path, line))


class CodeTest(unittest.TestCase):
    def test_what_stands_at_module_level(self):
        for path, tree in trees():
            for at, node in enumerate(tree.body):
                docstring = at == 0 and isinstance(node, ast.Expr) and isinstance(node.value, ast.Constant)
                right = (ast.ImportFrom, ast.FunctionDef, ast.ClassDef, ast.Assign)
                self.assertTrue(docstring or isinstance(node, right), (path, node.lineno))
            names = defined_in(tree) + imported_in(tree)
            self.assertEqual(len(names), len(set(names)), path)

    def test_imports(self):
        defined = {"threeorders." + path.stem: defined_in(tree) for path, tree in trees()}
        for path, tree in trees():
            self.assertFalse([node for node in ast.walk(tree) if isinstance(node, ast.Import)], path)
            for node in ast.walk(tree):
                if isinstance(node, ast.ImportFrom):
                    self.assertEqual(node.level, 0)
                    for alias in node.names:
                        self.assertIsNone(alias.asname)
                        self.assertIn(alias.name, LIBRARY.get(node.module) or defined[node.module], path)
                    used = {name.id for name in ast.walk(tree) if isinstance(name, ast.Name)}
                    self.assertTrue({alias.name for alias in node.names} <= used, (path, node.module))

    def test_no_two_files_import_from_each_other(self):
        needs = {path.stem: {node.module.split(".")[-1] for node in tree.body if isinstance(node, ast.ImportFrom)
                             and node.module.startswith("threeorders.")} for path, tree in trees()}
        done = set()
        while len(done) < len(needs):
            more = {name for name, needed in needs.items() if needed <= done} - done
            self.assertTrue(more, sorted(set(needs) - done))
            done |= more

    def test_nothing_that_is_left_out(self):
        for path, tree in trees():
            for node in ast.walk(tree):
                self.assertNotIsInstance(node, NODES_LEFT_OUT, path)
                if isinstance(node, ast.Constant):
                    self.assertNotIsInstance(node.value, (float, complex))
                if isinstance(node, ast.Compare):
                    for sign, side in zip(node.ops, node.comparators):
                        if isinstance(sign, (ast.Is, ast.IsNot)):
                            self.assertIn(ast.unparse(side), ("None", "True", "False"), (path, node.lineno))

    def test_builtins(self):
        for path, tree in trees():
            own = set(defined_in(tree) + imported_in(tree))
            for node in ast.walk(tree):
                if isinstance(node, ast.Name) and hasattr(builtins, node.id) and node.id not in own:
                    self.assertIn(node.id, BUILTINS, (path, node.lineno))

    def test_names(self):
        for path, tree in trees():
            taken = set(imported_in(tree)) | {node.name for node in tree.body if isinstance(node, ast.ClassDef)}
            for name in defined_in(tree):
                self.assertFalse(hasattr(builtins, name), (path, name))
            for function in functions_in(tree):
                for name in bound_in(function):
                    self.assertFalse(hasattr(builtins, name) or name in taken, (path, function.name, name))

    def test_classes(self):
        for path, tree in trees():
            for node in ast.walk(tree):
                if isinstance(node, ast.ClassDef):
                    methods = [each.name for each in functions_in(node)]
                    self.assertEqual(len(methods), len(set(methods)), (path, node.name))
                    for name in methods:
                        self.assertTrue(not name.startswith("__") or name in METHODS, (path, name))
                    stored = {each.attr for each in ast.walk(node) if isinstance(each, ast.Attribute)
                              and isinstance(each.ctx, ast.Store)}
                    self.assertFalse(stored & set(methods), (path, node.name))

    def test_no_name_is_a_method_and_an_attribute(self):
        nodes = [node for _, tree in trees() for node in ast.walk(tree)]
        stored = {node.attr for node in nodes if isinstance(node, ast.Attribute) and isinstance(node.ctx, ast.Store)}
        bodies = [item for node in nodes if isinstance(node, ast.ClassDef) for item in node.body]
        methods = {item.name for item in bodies if isinstance(item, ast.FunctionDef)}
        self.assertEqual(stored & methods, set())
        self.assertTrue(len(stored) > 20 and len(methods) > 50)

    def test_operators_change_nothing_that_they_did_not_create(self):
        for path, cls, function in reached_by_operators():
            own = {target.id for node in ast.walk(function) if isinstance(node, ast.Assign)
                   for target in node.targets if isinstance(target, ast.Name)}
            for node in ast.walk(function):
                self.assertNotIsInstance(node, (ast.Yield, ast.YieldFrom, ast.Delete), (path, function.name))
                changed = changed_by(node)
                if isinstance(changed, ast.Attribute) and function.name == "__init__":
                    self.assertEqual(ast.unparse(changed.value), "self")
                elif changed is not None:
                    self.assertIn(ast.unparse(changed).partition("[")[0], own, (path, function.name, node.lineno))

    def test_stars_in_calls(self):
        for path, tree in trees():
            for call in [node for node in ast.walk(tree) if isinstance(node, ast.Call)]:
                for item in [item for item in call.args if isinstance(item, ast.Starred)]:
                    self.assertIsInstance(item.value, (ast.Name, ast.Attribute), (path, call.lineno))

    def test_what_finally_contains(self):
        for path, tree in trees():
            for node in [node for node in ast.walk(tree) if isinstance(node, ast.Try)]:
                for line in node.finalbody:
                    self.assertIsInstance(line, ast.Assign, (path, line.lineno))
                    self.assertIsInstance(line.value, (ast.Name, ast.Attribute, ast.Constant), (path, line.lineno))

    def test_decorators(self):
        for path, tree in trees():
            for function in functions_in(tree):
                for decorator in function.decorator_list:
                    self.assertIn(ast.unparse(decorator), ("staticmethod", "property"), (path, function.name))

    def test_no_other_function_has_the_name_of_a_generator(self):
        every = [function for _, tree in trees() for function in functions_in(tree)]
        generators = [function.name for function in every
                      if any(isinstance(node, (ast.Yield, ast.YieldFrom)) for node in ast.walk(function))]
        names = [function.name for function in every]
        for name in generators:
            self.assertEqual(names.count(name), 1, name)
