"""The interface: names, arguments, where they are defined; and the form of the files."""

import ast
import importlib
import inspect
import os
import unittest

ARGUMENTS = {
    "sparebay.webs": {
        "is_web": ["thing"], "neighbours": ["web", "bay"], "first_path": ["web", "a", "b"],
        "sides": ["web"],
    },
    "sparebay.blocks": {
        "blocks": ["web"], "gates": ["web"], "kinds": ["web"], "round_of": ["web", "k"],
    },
    "sparebay.standings": {
        "is_standing": ["web", "thing"], "is_loose": ["web", "thing"],
        "done": ["web", "loose", "moves"], "led": ["web", "loose", "bay"],
    },
    "sparebay.judges": {
        "judge": ["web", "one", "other"], "shows_judged": ["web", "one", "other", "thing"],
    },
    "sparebay.forms": {"normal_form": ["web", "standing"]},
    "sparebay.ways": {
        "way": ["web", "one", "other"], "fewest": ["web", "one", "other"], "levels": ["web", "loose"],
    },
    "sparebay.tours": {
        "turned": ["web", "bay", "tour"], "order_of": ["web", "bay", "tour"],
        "done_many": ["web", "loose", "tour", "times"],
    },
    "sparebay.counts": {"how_many": ["web", "loose"], "classes": ["web"], "mends": ["web"]},
    "sparebay.wishes": {"meeting": ["web", "loose", "wish"]},
    "sparebay.yards": {"trial": ["yard", "things"]},
    "sparebay.whys": {"why": ["web", "one", "other"], "shows_why": ["web", "one", "other", "thing"]},
}
METHODS = {
    ("sparebay.yards", "Yard"): {
        "__init__": ["web", "standing"], "move": ["bay"], "lead": ["bay"], "shift": ["piece", "bay"], "undo": [],
        "standing": [], "moves": [], "asked": ["other"], "__len__": [], "__enter__": [], "__exit__": None,
    },
    ("sparebay.halls", "Hall"): {
        "__init__": ["web", "standing"], "move": ["bay"], "tie": ["a", "b"], "untie": ["a", "b"], "keep": ["wish"],
        "drop": ["wish"], "undo": [], "web_now": [], "standing": [], "wishes": [], "met": [], "__len__": [],
    },
}
TOP = os.path.dirname(os.path.dirname(os.path.abspath(__file__)))
PACKAGE = os.path.join(TOP, "sparebay")
LIBRARY = ("heapq", "math", "itertools", "collections")


def files():
    """Pairs of the name and the text of each file of the package."""
    for name in sorted(os.listdir(PACKAGE)):
        if name != "__pycache__":
            with open(os.path.join(PACKAGE, name), encoding="utf-8") as file:
                yield name, file.read()


class InterfaceTest(unittest.TestCase):

    def test_names_and_arguments(self):
        for module in ARGUMENTS:
            held = importlib.import_module(module)
            for name, arguments in ARGUMENTS[module].items():
                self.assert_takes(getattr(held, name), arguments)

    def test_methods_and_their_arguments(self):
        for (module, name), methods in METHODS.items():
            held = getattr(importlib.import_module(module), name)
            for method, arguments in methods.items():
                # Each stands in the class itself, not only in a base class.
                function = vars(held)[method]
                if arguments is not None:
                    self.assert_takes(function, ["self"] + arguments)

    def assert_takes(self, function, arguments):
        told = inspect.signature(function).parameters
        self.assertEqual(list(told), arguments, function)
        for argument in told.values():
            self.assertEqual(argument.kind, argument.POSITIONAL_OR_KEYWORD, function)
            self.assertIs(argument.default, argument.empty, function)

    def test_each_is_defined_in_its_file(self):
        texts = dict(files())
        for module in ARGUMENTS:
            tree = ast.parse(texts[module.split(".")[1] + ".py"])
            defined = [row.name for row in tree.body if isinstance(row, ast.FunctionDef)]
            for name in ARGUMENTS[module]:
                self.assertEqual(defined.count(name), 1, name)
        for module, name in METHODS:
            tree = ast.parse(texts[module.split(".")[1] + ".py"])
            self.assertEqual([row.name for row in tree.body if isinstance(row, ast.ClassDef)].count(name), 1)


class FilesTest(unittest.TestCase):

    def test_only_python_files(self):
        names = [name for name, _ in files()]
        self.assertIn("__init__.py", names)
        for name in names:
            self.assertTrue(name.endswith(".py") and name == name.lower(), name)

    def test_sizes_and_signs(self):
        for name, text in files():
            self.assertTrue(all(" " <= sign <= "~" or sign == "\n" for sign in text), name)
            self.assertLessEqual(len(text.splitlines()), 399, name)
            for line in text.splitlines():
                self.assertLessEqual(len(line), 120, (name, line))

    def test_functions_are_small(self):
        for name, text in files():
            for row in ast.walk(ast.parse(text)):
                if isinstance(row, ast.FunctionDef):
                    self.assertLessEqual(row.end_lineno - row.lineno + 1, 40, (name, row.name))

    def test_imports(self):
        texts = dict(files())
        for name, text in texts.items():
            for row in ast.walk(ast.parse(text)):
                self.assertNotIsInstance(row, ast.Import, name)
                if isinstance(row, ast.ImportFrom):
                    self.assertEqual(row.level, 0, name)
                    if row.module not in LIBRARY:
                        self.assert_defines(texts, row)

    def assert_defines(self, texts, row):
        package, _, file = row.module.partition(".")
        self.assertEqual(package, "sparebay")
        tree = ast.parse(texts[file + ".py"])
        defined = [part.name for part in tree.body if isinstance(part, (ast.FunctionDef, ast.ClassDef))]
        for part in tree.body:
            if isinstance(part, ast.Assign):
                defined += [target.id for target in part.targets]
        for alias in row.names:
            self.assertIn(alias.name, defined)
