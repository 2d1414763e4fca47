"""The form of the package: those rules of LANGUAGE.md that are plainly seen in a file's tree and text."""

import ast
import builtins
import os
import re
import unittest

ROOT = os.path.dirname(os.path.dirname(os.path.abspath(__file__)))
PACKAGE = os.path.join(ROOT, "fallstones")

BUILTINS = set(
    "len range enumerate zip min max sum abs sorted reversed int str bool bytes list tuple dict set frozenset isinstance"
    " ord repr any all divmod Exception ValueError TypeError KeyError IndexError LookupError ZeroDivisionError"
    " ArithmeticError OverflowError RuntimeError NotImplementedError AttributeError StopIteration".split()
)
METHODS = set(
    "append clear copy count endswith extend find get index insert isalnum isalpha isdigit islower isspace isupper items"
    " join keys ljust lower lstrip partition pop remove replace reverse rfind rjust rpartition rsplit rstrip setdefault"
    " split splitlines startswith strip update upper values zfill bit_length sort".split()
)
BARRED = re.compile(
    r"\b(type|typing|typing_extensions|enum|Enum|IntEnum|StrEnum|Flag|IntFlag|Generic|Protocol|ABC|ABCMeta|namedtuple"
    r"|NamedTuple|TypedDict|TYPE_CHECKING|abstractmethod)\b|dataclass|overload|contextmanager"
)
NOT_LET = (
    ast.Global, ast.AsyncFunctionDef, ast.AsyncFor, ast.AsyncWith, ast.Await, ast.Import, ast.Div, ast.MatMult,
)


def files():
    """(path, text, tree) of each file of the package."""
    told = []
    for name in sorted(os.listdir(PACKAGE)):
        if name == "__pycache__":
            continue
        path = os.path.join(PACKAGE, name)
        with open(path, encoding="utf-8") as file:
            text = file.read()
        told.append((name, text, ast.parse(text)))
    return told


def names_bound(tree):
    """All names of variables, parameters, functions, classes and attributes that a file binds."""
    names = []
    for node in ast.walk(tree):
        if isinstance(node, (ast.FunctionDef, ast.ClassDef)):
            names.append(node.name)
        elif isinstance(node, ast.arg):
            names.append(node.arg)
        elif isinstance(node, (ast.Name, ast.Attribute)) and isinstance(node.ctx, ast.Store):
            names.append(node.id if isinstance(node, ast.Name) else node.attr)
    return names


def methods_and_attributes():
    methods, attributes = set(), set()
    for _, _, tree in files():
        for node in ast.walk(tree):
            if isinstance(node, ast.ClassDef):
                methods.update(part.name for part in node.body if isinstance(part, ast.FunctionDef))
            if isinstance(node, ast.Attribute) and isinstance(node.ctx, ast.Store):
                attributes.add(node.attr)
    return methods, attributes


class TestLanguage(unittest.TestCase):
    def each(self):
        for name, text, tree in files():
            with self.subTest(name):
                yield name, text, tree

    def test_files(self):
        told = files()
        self.assertTrue(told)
        for name, text, _ in told:
            self.assertRegex(name, r"\A(__init__|[a-z][a-z0-9_]*)\.py\Z")
            self.assertRegex(text, r"\A[\n -~]*\Z")
            self.assertLessEqual(text.count("\n"), 400, name)
            self.assertLessEqual(max(map(len, text.split("\n"))), 120, name)
            self.assertIsNone(BARRED.search(text), name)

    def test_functions_are_short(self):
        for name, _, tree in self.each():
            for node in ast.walk(tree):
                if isinstance(node, ast.FunctionDef):
                    self.assertLessEqual(node.end_lineno - node.lineno + 1, 40, node.name)

    def test_module_level(self):
        let = (ast.Expr, ast.ImportFrom, ast.FunctionDef, ast.ClassDef, ast.Assign)
        for name, _, tree in self.each():
            bound = []
            for at, node in enumerate(tree.body):
                self.assertIsInstance(node, let)
                if isinstance(node, ast.Expr):
                    self.assertEqual(at, 0)
                elif isinstance(node, ast.ImportFrom):
                    self.assertEqual(node.level, 0)
                    self.assertTrue(node.module.startswith("fallstones."))
                    bound += [part.asname or part.name for part in node.names]
                elif isinstance(node, ast.Assign):
                    self.assertEqual(len(node.targets), 1)
                    bound.append(node.targets[0].id)
                else:
                    bound.append(node.name)
            self.assertEqual(len(bound), len(set(bound)))

    def test_imports_name_the_file_that_defines_the_name(self):
        defined = {name[:-3]: {part for node in tree.body for part in names_bound(node)} for name, _, tree in files()}
        for _, _, tree in self.each():
            imported = []
            for node in tree.body:
                if isinstance(node, ast.ImportFrom):
                    imported += [part.name for part in node.names]
                    for part in node.names:
                        self.assertIn(part.name, defined[node.module.split(".")[1]])
            used = [node.id for node in ast.walk(tree) if isinstance(node, ast.Name)]
            self.assertEqual([part for part in imported if part not in used], [])
            self.assertEqual([part for part in names_bound(tree) if part in imported], [])

    def test_statements_and_signs(self):
        for _, text, tree in self.each():
            for node in ast.walk(tree):
                self.assertNotIsInstance(node, NOT_LET)
                if isinstance(node, ast.Constant):
                    self.assertNotIsInstance(node.value, (float, complex))
                    self.assertNotIn("%", str(node.value))
                if isinstance(node, ast.Compare):
                    for sign, right in zip(node.ops, node.comparators):
                        if isinstance(sign, (ast.Is, ast.IsNot)):
                            self.assertIn(getattr(right, "value", "no"), (None, True, False))
                if isinstance(node, ast.ExceptHandler):
                    self.assertIsNotNone(node.type)

    def test_names(self):
        for _, _, tree in self.each():
            for bound in names_bound(tree):
                if not bound.startswith("__"):
                    self.assertRegex(bound, r"\A[A-Za-z][A-Za-z0-9_]*\Z")
                    self.assertFalse(hasattr(builtins, bound), bound)

    def test_builtins(self):
        for _, _, tree in self.each():
            for node in ast.walk(tree):
                if isinstance(node, ast.Name) and hasattr(builtins, node.id):
                    self.assertIn(node.id, BUILTINS)

    def test_methods(self):
        methods, attributes = methods_and_attributes()
        self.assertEqual(methods & attributes, set())
        for _, _, tree in self.each():
            for node in ast.walk(tree):
                if isinstance(node, ast.Call) and isinstance(node.func, ast.Attribute):
                    self.assertIn(node.func.attr, METHODS | methods)


if __name__ == "__main__":
    unittest.main()
