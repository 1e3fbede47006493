"""The package keeps to its part of Python: the rules that can be read off a file, with their L numbers."""

import ast
import builtins
import re
import unittest
from pathlib import Path

PACKAGE = Path(__file__).resolve().parent.parent / "netflows"

STATEMENTS = (
    ast.Assign, ast.AugAssign, ast.If, ast.While, ast.For, ast.Return, ast.Break, ast.Continue, ast.Pass,
    ast.Raise, ast.Try, ast.Expr, ast.FunctionDef, ast.ClassDef, ast.ImportFrom,
)
EXPRESSIONS = (
    ast.Constant, ast.Name, ast.List, ast.Tuple, ast.Dict, ast.Set, ast.BinOp, ast.UnaryOp, ast.BoolOp, ast.Compare,
    ast.IfExp, ast.Call, ast.Attribute, ast.Subscript, ast.Slice, ast.ListComp, ast.JoinedStr, ast.FormattedValue,
    ast.Lambda,
)
PYTHONS_OWN = set(
    "len range enumerate zip min max sum abs sorted reversed int str bool list tuple dict set frozenset isinstance"
    " ord repr any all divmod Exception ValueError TypeError KeyError IndexError LookupError ZeroDivisionError"
    " ArithmeticError OverflowError RuntimeError NotImplementedError AttributeError StopIteration".split())
WORDS_NOT_USED = re.compile(
    r"\b(type|typing|typing_extensions|enum|Enum|IntEnum|StrEnum|Flag|IntFlag|Generic|Protocol|ABC|ABCMeta"
    r"|namedtuple|NamedTuple|TypedDict|TYPE_CHECKING|abstractmethod)\b|dataclass|overload|contextmanager")


class LanguageTest(unittest.TestCase):
    def setUp(self):
        self.files = [path for path in sorted(PACKAGE.rglob("*")) if "__pycache__" not in path.parts]
        self.texts = {path.name: path.read_text(encoding="utf-8") for path in self.files if path.is_file()}
        self.trees = {name: ast.parse(text) for name, text in self.texts.items()}

    def nodes(self, *kinds):
        return [
            (name, node) for name, tree in self.trees.items() for node in ast.walk(tree) if isinstance(node, kinds)]

    def test_files(self):
        self.assertIn("__init__.py", self.texts)
        for path in self.files:
            self.assertRegex(path.name, r"\A[a-z][a-z0-9_]*\.py\Z|\A__init__\.py\Z", "L1, L14")

    def test_sizes_and_signs(self):
        for name, text in self.texts.items():
            rows = text.split("\n")
            self.assertLessEqual(len(rows) - 1, 400, f"L10 {name}")
            self.assertTrue(all(len(row) <= 120 for row in rows), f"L10 {name}")
            self.assertRegex(text, r"\A[ -~\n]*\Z", f"L14 {name}")
            self.assertNotRegex(text, WORDS_NOT_USED, f"L17 {name}")
        for name, node in self.nodes(ast.FunctionDef):
            self.assertLessEqual(node.end_lineno - node.lineno + 1, 40, f"L10 {name} {node.name}")

    def test_imports(self):
        for name, node in self.nodes(ast.ImportFrom):
            self.assertEqual(node.level, 0, f"L2 {name}")
            self.assertRegex(node.module, r"\Anetflows\.[a-z_]+\Z", f"L2 {name}")
            self.assertIn(node, self.trees[name].body, f"L2 {name}")

    def test_statements_and_expressions(self):
        for name, node in self.nodes(ast.stmt):
            self.assertIsInstance(node, STATEMENTS, f"L6 {name}:{node.lineno}")
        for name, node in self.nodes(ast.expr):
            self.assertIsInstance(node, EXPRESSIONS, f"L7 {name}:{node.lineno}")
        for name, node in self.nodes(ast.For, ast.While, ast.Assign, ast.Constant, ast.Div):
            self.assertFalse(getattr(node, "orelse", []), f"L6 {name}")
            self.assertLessEqual(len(getattr(node, "targets", [])), 1, f"L6 {name}")
            self.assertNotIsInstance(getattr(node, "value", None), (float, bytes, complex), f"L7 {name}")
            self.assertNotIsInstance(node, ast.Div, f"L7 {name}")

    def test_names(self):
        for name, node in self.nodes(ast.Name):
            if node.id in dir(builtins):
                self.assertIn(node.id, PYTHONS_OWN, f"L8 {name}:{node.lineno}")
                self.assertIsInstance(node.ctx, ast.Load, f"L8, L15 {name}:{node.lineno}")
            self.assertRegex(node.id, r"\A[A-Za-z]", f"L12 {name}:{node.lineno}")
        for name, node in self.nodes(ast.arg):
            self.assertNotIn(node.arg, dir(builtins), f"L15 {name}:{node.lineno}")
