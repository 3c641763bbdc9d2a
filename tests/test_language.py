"""Rows of the language's rules that can be read off the package's files."""

import ast
import pathlib
import re
import unittest

PACKAGE = pathlib.Path(__file__).resolve().parent.parent / "farebest"
FILES = sorted(path for path in PACKAGE.rglob("*") if "__pycache__" not in path.parts and path.is_file())

ALLOWED_NODES = (
    "Module Expr ImportFrom alias FunctionDef arguments arg ClassDef Assign AugAssign If While For Return Break "
    "Continue Pass Call Attribute Subscript Slice Name Constant List Tuple Dict BinOp UnaryOp BoolOp Compare IfExp "
    "ListComp comprehension Load Store Add Sub Mult FloorDiv Mod BitAnd BitOr BitXor LShift RShift Invert Not USub "
    "And Or Eq NotEq Lt LtE Gt GtE In NotIn Is IsNot").split()

ALLOWED_BUILTINS = (
    "len range enumerate zip min max sum abs sorted reversed int str bool list tuple dict isinstance any all "
    "divmod").split()

BARRED_WORDS = (
    r"\b(type|typing|typing_extensions|enum|Enum|IntEnum|StrEnum|Flag|IntFlag|Generic|Protocol|ABC|ABCMeta|"
    r"namedtuple|NamedTuple|TypedDict|TYPE_CHECKING|abstractmethod)\b|dataclass|overload|contextmanager")


class Form(unittest.TestCase):
    def trees(self):
        for path in FILES:
            yield path, ast.parse(path.read_text("utf-8"))

    def test_files(self):
        self.assertTrue(FILES)
        for path in FILES:
            self.assertRegex(path.name, r"^[a-z0-9_]+\.py$")

    def test_rows_and_signs(self):
        for path in FILES:
            text = path.read_text("utf-8")
            self.assertIsNone(re.search(r"[^ -~\n]", text), path)
            self.assertIsNone(re.search(BARRED_WORDS, text), path)
            self.assertLessEqual(len(text.splitlines()), 400, path)
            self.assertLessEqual(max(map(len, text.splitlines())), 120, path)

    def test_only_the_small_part_of_the_language(self):
        for path, tree in self.trees():
            for node in ast.walk(tree):
                self.assertIn(type(node).__name__, ALLOWED_NODES, (path, getattr(node, "lineno", 0)))
                if isinstance(node, ast.FunctionDef):
                    self.assertLessEqual(node.end_lineno - node.lineno + 1, 40, (path, node.name))
                if isinstance(node, ast.Assign):
                    self.assertEqual(len(node.targets), 1, (path, node.lineno))
                if isinstance(node, ast.ImportFrom):
                    self.assertEqual((node.level, node.module.split(".")[0]), (0, "farebest"), path)
                if isinstance(node, ast.Constant):
                    self.assertIsInstance(node.value, (int, str, type(None)), (path, node.lineno))

    def test_names(self):
        for path, tree in self.trees():
            nodes = list(ast.walk(tree))
            known = set(ALLOWED_BUILTINS)
            known |= {node.name for node in nodes if isinstance(node, (ast.FunctionDef, ast.ClassDef, ast.alias))}
            known |= {node.arg for node in nodes if isinstance(node, ast.arg)}
            known |= {node.id for node in nodes if isinstance(node, ast.Name) and isinstance(node.ctx, ast.Store)}
            for node in nodes:
                if isinstance(node, ast.Name):
                    self.assertIn(node.id, known, (path, node.lineno))
                    self.assertFalse(node.id.startswith("_"), (path, node.lineno))
