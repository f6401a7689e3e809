"""The package keeps to the small part of Python that it is written in: what of it can be read off the files."""

import ast
import pathlib
import re
import unittest

PACKAGE = pathlib.Path(__file__).resolve().parent.parent / "stationclock"
FILES = sorted(path for path in PACKAGE.rglob("*") if "__pycache__" not in path.parts)

NODES = set("""
Module Expr Constant ImportFrom alias FunctionDef ClassDef arguments arg Return Assign AugAssign For While If Break
Continue Pass Call Name Attribute Subscript Slice Load Store List Tuple Dict ListComp comprehension BinOp UnaryOp
BoolOp Compare IfExp Add Sub Mult FloorDiv Mod USub Not And Or Eq NotEq Lt LtE Gt GtE Is IsNot In NotIn
""".split())
OWN_NAMES = set("len range enumerate zip min max sum abs sorted reversed int str bool list tuple dict".split())
OWN_METHODS = set("append extend get copy index count insert pop".split())
WORDS = re.compile(
    r"\b(type|typing|typing_extensions|enum|Enum|IntEnum|StrEnum|Flag|IntFlag|Generic|Protocol|ABC|ABCMeta|namedtuple"
    r"|NamedTuple|TypedDict|TYPE_CHECKING|abstractmethod)\b|dataclass|overload|contextmanager")
TAKEN_ATTRIBUTES = {name for kind in (str, int, list, dict, set, bytes) for name in dir(kind)}


def trees():
    return [(path, ast.parse(path.read_text(encoding="ascii"))) for path in FILES]


def bound_names(tree):
    for node in ast.walk(tree):
        if isinstance(node, ast.Name) and isinstance(node.ctx, ast.Store):
            yield node.id
        if isinstance(node, ast.arg):
            yield node.arg
        if isinstance(node, (ast.FunctionDef, ast.ClassDef)):
            yield node.name
        if isinstance(node, ast.alias):
            yield node.name


class Form(unittest.TestCase):
    def test_files(self):
        self.assertIn(PACKAGE / "clock.py", FILES)
        for path in FILES:
            self.assertRegex(path.name, r"\A(__init__|[a-z][a-z0-9_]*)\.py\Z")

    def test_signs_rows_and_words(self):
        for path in FILES:
            rows = path.read_bytes().decode("ascii").split("\n")
            self.assertLessEqual(len(rows), 400)
            for row in rows:
                self.assertLessEqual(len(row), 120)
                self.assertRegex(row, r"\A[ -~]*\Z")
                self.assertIsNone(WORDS.search(row), row)

    def test_functions_are_small(self):
        for path, tree in trees():
            for node in ast.walk(tree):
                if isinstance(node, ast.FunctionDef):
                    self.assertLessEqual(node.end_lineno - node.lineno + 1, 40, node.name)
                    self.assertEqual((node.decorator_list, node.args.vararg, node.args.kwarg), ([], None, None))

    def test_statements_and_expressions(self):
        for path, tree in trees():
            for node in ast.walk(tree):
                self.assertIn(node.__class__.__name__, NODES, (path.name, getattr(node, "lineno", 0)))
                if isinstance(node, ast.Constant):
                    self.assertIn(node.value.__class__, (int, str, bool, None.__class__))
                if isinstance(node, ast.Assign):
                    self.assertEqual(len(node.targets), 1)
                if isinstance(node, ast.ImportFrom):
                    self.assertRegex(node.module, r"\Astationclock\.")
                    self.assertEqual(node.level, 0)

    def test_names(self):
        for path, tree in trees():
            names = set(bound_names(tree))
            for name in names - {"__init__"}:
                self.assertRegex(name, r"\A[A-Za-z][A-Za-z0-9_]*\Z")
                self.assertNotIn(name, dir(__builtins__) if not isinstance(__builtins__, dict) else __builtins__)
            for node in ast.walk(tree):
                if isinstance(node, ast.Name) and node.id not in names:
                    self.assertIn(node.id, OWN_NAMES)

    def test_methods_and_values_of_objects(self):
        methods, values, called = set(), set(), set()
        for path, tree in trees():
            for node in ast.walk(tree):
                if isinstance(node, ast.ClassDef):
                    methods |= {part.name for part in node.body}
                if isinstance(node, ast.Attribute) and isinstance(node.ctx, ast.Store):
                    values.add(node.attr)
                if isinstance(node, ast.Call) and isinstance(node.func, ast.Attribute):
                    called.add(node.func.attr)
        self.assertEqual(methods & values, set())
        self.assertEqual(((methods - {"__init__"}) | values) & TAKEN_ATTRIBUTES, set())
        self.assertLessEqual(called, methods | OWN_METHODS)


if __name__ == "__main__":
    unittest.main()
