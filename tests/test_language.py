"""The package's files keep to the plain part of Python that they are written in."""

import ast
import builtins
import pathlib
import re
import unittest

PACKAGE = pathlib.Path(__file__).resolve().parent.parent / "lineswitch"
FILES = sorted(PACKAGE.rglob("*.py"))
PYTHONS_OWN = dir(builtins)
ALLOWED = set(
    "len range enumerate zip min max sum abs sorted reversed int str bool bytes list tuple dict "
    "set frozenset isinstance ord repr any all divmod Exception ValueError TypeError KeyError "
    "IndexError LookupError ZeroDivisionError ArithmeticError OverflowError RuntimeError "
    "NotImplementedError AttributeError StopIteration".split()
)
BANNED_NODES = (
    ast.GeneratorExp, ast.With, ast.Match, ast.Global, ast.Nonlocal, ast.Yield, ast.YieldFrom,
    ast.Await, ast.AsyncFunctionDef, ast.AsyncFor, ast.AsyncWith, ast.NamedExpr, ast.Div,
    ast.Import,
)
BANNED_WORDS = re.compile(
    r"\b(type|typing|typing_extensions|enum|Enum|IntEnum|StrEnum|Flag|IntFlag|Generic|Protocol"
    r"|ABC|ABCMeta|namedtuple|NamedTuple|TypedDict|TYPE_CHECKING|abstractmethod)\b"
    r"|dataclass|overload|contextmanager"
)


def nodes():
    for path in FILES:
        for node in ast.walk(ast.parse(path.read_text(encoding="ascii"))):
            yield path.name, node


def names_given(tree):
    for node in ast.walk(tree):
        if isinstance(node, ast.Name) and isinstance(node.ctx, ast.Store):
            yield node.id
        elif isinstance(node, ast.arg):
            yield node.arg
        elif isinstance(node, (ast.FunctionDef, ast.ClassDef)):
            yield node.name


class LanguageTest(unittest.TestCase):
    def test_there_is_something_to_read(self):
        self.assertGreaterEqual(len(FILES), 5)

    def test_signs_and_lengths(self):
        for path in FILES:
            rows = path.read_text(encoding="ascii").split("\n")
            self.assertLessEqual(len(rows), 400, path)
            for row in rows:
                self.assertLessEqual(len(row), 120, path)
                self.assertTrue(row.isprintable(), (path, row))

    def test_words_that_stand_nowhere(self):
        for path in FILES:
            self.assertIsNone(BANNED_WORDS.search(path.read_text(encoding="ascii")), path)

    def test_forms_that_stand_nowhere(self):
        for name, node in nodes():
            where = (name, getattr(node, "lineno", None))
            self.assertNotIsInstance(node, BANNED_NODES, where)
            if isinstance(node, ast.Constant):
                self.assertNotIsInstance(node.value, (float, complex), where)
            if isinstance(node, ast.Call):
                self.assertFalse(any(isinstance(part, ast.Starred) for part in node.args), where)
            if isinstance(node, (ast.For, ast.While)):
                self.assertEqual(node.orelse, [], where)

    def test_defs_are_short_and_plain(self):
        for name, node in nodes():
            if isinstance(node, ast.FunctionDef):
                self.assertLessEqual(node.end_lineno - node.lineno + 1, 40, (name, node.name))
                self.assertEqual(node.decorator_list, [], (name, node.name))
                self.assertIsNone(node.args.vararg or node.args.kwarg, (name, node.name))

    def test_imports_are_the_package_s_own(self):
        for name, node in nodes():
            if isinstance(node, ast.ImportFrom):
                self.assertEqual(node.level, 0, name)
                self.assertTrue(node.module.startswith("lineswitch."), name)
                self.assertNotIn("*", [alias.name for alias in node.names], name)

    def test_names(self):
        for path in FILES:
            tree = ast.parse(path.read_text(encoding="ascii"))
            drawn = [
                alias.name for node in ast.walk(tree) if isinstance(node, ast.ImportFrom)
                for alias in node.names
            ]
            for name in names_given(tree):
                self.assertNotIn(name, drawn, path)
                self.assertNotIn(name, PYTHONS_OWN, path)
                self.assertTrue(name == "__init__" or not name.startswith("_"), (path, name))
            for node in ast.walk(tree):
                if isinstance(node, ast.Name) and node.id in PYTHONS_OWN:
                    self.assertIn(node.id, ALLOWED, path)


if __name__ == "__main__":
    unittest.main()
