"""The package's form: what can be told from its files alone."""

import ast
import importlib
import pathlib
import re
import unittest

PACKAGE = pathlib.Path(__file__).resolve().parent.parent / "bellwheel"
PYTHON_NAMES = """len range enumerate zip min max sum abs sorted reversed int str bool list tuple dict set isinstance
    ord repr any all divmod""".split()
BANNED_NODES = (
    ast.With, ast.Match, ast.Delete, ast.Global, ast.Nonlocal, ast.Assert, ast.Yield, ast.YieldFrom, ast.Await,
    ast.AsyncFunctionDef, ast.AsyncFor, ast.AsyncWith, ast.SetComp, ast.DictComp, ast.GeneratorExp, ast.NamedExpr,
    ast.Starred, ast.Div, ast.Import,
)
BANNED_WORDS = re.compile(
    r"\b(type|typing|typing_extensions|enum|Enum|IntEnum|StrEnum|Flag|IntFlag|Generic|Protocol|ABC|ABCMeta|namedtuple"
    r"|NamedTuple|TypedDict|TYPE_CHECKING|abstractmethod)\b|dataclass|overload|contextmanager"
)

# The methods of Python's own values that may be called.
PYTHON_METHODS = """append clear copy count endswith extend find get index insert isalnum isalpha isdigit islower
    isspace isupper items join keys ljust lower lstrip partition pop remove replace reverse rfind rjust rpartition
    rsplit rstrip setdefault split splitlines startswith strip update upper values zfill bit_length""".split()
TAKEN_NAMES = {name for kind in (str, int, list, dict, set, bytes, tuple) for name in dir(kind)}


def package_files():
    return sorted(path for path in PACKAGE.rglob("*") if path.is_file() and "__pycache__" not in path.parts)


def trees():
    return [(path.name, ast.parse(path.read_text("utf-8"))) for path in package_files()]


def bound_names(tree):
    """Every name that a file binds itself, at its top or within a function."""
    names = set()
    for node in ast.walk(tree):
        if isinstance(node, (ast.FunctionDef, ast.ClassDef)):
            names.add(node.name)
        elif isinstance(node, ast.arg):
            names.add(node.arg)
        elif isinstance(node, ast.Name) and isinstance(node.ctx, ast.Store):
            names.add(node.id)
        elif isinstance(node, ast.ImportFrom):
            names |= {alias.asname or alias.name for alias in node.names}
        elif isinstance(node, ast.ExceptHandler) and node.name:
            names.add(node.name)
    return names


def attributes(tree):
    """The attributes that are called, and those that are read or given a value."""
    nodes = list(ast.walk(tree))
    called = [node.func for node in nodes if isinstance(node, ast.Call) and isinstance(node.func, ast.Attribute)]
    kept = [node for node in nodes if isinstance(node, ast.Attribute) and node not in called]
    return ([node.attr for node in called], [node.attr for node in kept])


def methods(tree):
    classes = [node for node in ast.walk(tree) if isinstance(node, ast.ClassDef)]
    return [part.name for node in classes for part in node.body if isinstance(part, ast.FunctionDef)]


class FormCase(unittest.TestCase):
    def test_modules_are_there(self):
        for name in ("bellwheel", "bellwheel.errors", "bellwheel.slots", "bellwheel.wheel", "bellwheel.day"):
            self.assertEqual(importlib.import_module(name).__name__, name)

    def test_only_python_files_with_plain_names(self):
        self.assertIn("__init__.py", [path.name for path in package_files()])
        for path in package_files():
            self.assertRegex(path.name, r"\A(__init__|__main__|[a-z][a-z0-9_]*)\.py\Z")

    def test_signs_lengths_and_words(self):
        for path in package_files():
            text = path.read_bytes().decode("ascii")
            self.assertRegex(text, r"\A[\n -~]*\Z", path.name)
            self.assertIsNone(BANNED_WORDS.search(text), path.name)
            rows = text.split("\n")
            self.assertLessEqual(len(rows), 400, path.name)
            self.assertLessEqual(max(len(row) for row in rows), 120, path.name)

    def test_functions_are_short_and_plain(self):
        for name, tree in trees():
            for node in ast.walk(tree):
                if isinstance(node, ast.FunctionDef):
                    self.assertLessEqual(node.end_lineno - node.lineno + 1, 40, (name, node.name))
                    self.assertEqual(node.decorator_list, [], (name, node.name))

    def test_imports_are_the_packages_own(self):
        for name, tree in trees():
            for node in ast.walk(tree):
                if isinstance(node, ast.ImportFrom):
                    self.assertEqual(node.level, 0, name)
                    self.assertRegex(node.module, r"\Abellwheel\.[a-z0-9_]+\Z", name)

    def test_no_banned_form_stands_in_a_file(self):
        for name, tree in trees():
            for node in ast.walk(tree):
                self.assertNotIsInstance(node, BANNED_NODES, name)
                if isinstance(node, ast.Constant):
                    self.assertNotIsInstance(node.value, (float, complex, bytes), name)

    def test_names_are_plain_and_known(self):
        for name, tree in trees():
            own = bound_names(tree)
            for bound in own:
                self.assertRegex(bound, r"\A([A-Za-z][A-Za-z0-9_]*|__[a-z]+__)\Z", name)
                self.assertNotIn(bound, PYTHON_NAMES, name)
            for node in ast.walk(tree):
                if isinstance(node, ast.Name) and node.id not in own and not node.id.endswith("Error"):
                    self.assertIn(node.id, PYTHON_NAMES + ["Exception", "StopIteration"], name)

    def test_classes_hold_methods_alone(self):
        for name, tree in trees():
            for node in ast.walk(tree):
                if isinstance(node, ast.ClassDef):
                    self.assertIn(node, tree.body, (name, node.name))
                    self.assertEqual((node.decorator_list, node.keywords), ([], []), (name, node.name))
                    rows = [part for part in node.body if not isinstance(part, ast.FunctionDef)]
                    self.assertTrue(all(isinstance(part, ast.Expr) for part in rows), (name, node.name))
            self.assertEqual(len(methods(tree)), len(set(methods(tree))), name)

    def test_methods_and_values_have_free_names(self):
        own = [method for name, tree in trees() for method in methods(tree)]
        for method in own:
            self.assertTrue(method == "__init__" or method not in TAKEN_NAMES, method)
        for name, tree in trees():
            called, kept = attributes(tree)
            for attribute in called:
                self.assertIn(attribute, own + PYTHON_METHODS, name)
            for attribute in kept:
                self.assertNotIn(attribute, own, name)
                self.assertNotIn(attribute, TAKEN_NAMES, name)

    def test_statements_are_plain(self):
        for name, tree in trees():
            for node in ast.walk(tree):
                if isinstance(node, ast.Assign):
                    self.assertEqual(len(node.targets), 1, name)
                if isinstance(node, (ast.For, ast.While)):
                    self.assertEqual(node.orelse, [], name)
                if isinstance(node, ast.Compare):
                    beside = [part.value if isinstance(part, ast.Constant) else 0 for part in node.comparators]
                    for sign, value in zip(node.ops, beside, strict=True):
                        plain = value is None or value is True or value is False
                        self.assertTrue(plain or not isinstance(sign, (ast.Is, ast.IsNot)), name)
                if isinstance(node, ast.ListComp):
                    self.assertEqual(len(node.generators), 1, name)
                    self.assertLessEqual(len(node.generators[0].ifs), 1, name)


if __name__ == "__main__":
    unittest.main()
