"""The package's files keep to the small part of the language: those rules that a short look can tell."""

import ast
import pathlib
import re
import unittest

PACKAGE = pathlib.Path(__file__).resolve().parent.parent / "broughtover"

STATEMENTS = (
    ast.Assign, ast.AugAssign, ast.If, ast.While, ast.For, ast.Return, ast.Break, ast.Continue, ast.Pass,
    ast.Raise, ast.Try, ast.Expr, ast.FunctionDef, ast.ClassDef, ast.ImportFrom,
)
EXPRESSIONS = (
    ast.Constant, ast.Name, ast.List, ast.Tuple, ast.Dict, ast.BinOp, ast.UnaryOp, ast.BoolOp, ast.Compare,
    ast.IfExp, ast.Call, ast.Attribute, ast.Subscript, ast.Slice, ast.ListComp, ast.JoinedStr,
    ast.FormattedValue, ast.Lambda,
)
FORBIDDEN_WORDS = re.compile(
    r"\b(type|typing|typing_extensions|enum|Enum|IntEnum|StrEnum|Flag|IntFlag|Generic|Protocol|ABC|ABCMeta"
    r"|namedtuple|NamedTuple|TypedDict|TYPE_CHECKING|abstractmethod)\b|dataclass|overload|contextmanager"
)
BUILT_IN = set(
    "len range enumerate zip min max sum abs sorted reversed int str bool list tuple dict isinstance ord repr"
    " any all divmod Exception ValueError".split()
)
METHODS = set(
    "append clear copy count endswith extend find get index insert items join keys pop remove replace reverse"
    " setdefault split startswith strip update values".split()
)


def sources():
    return [(path, path.read_text(encoding="utf-8")) for path in sorted(PACKAGE.glob("*.py"))]


def bound_names(tree):
    """Every name that a file binds: defs, classes, parameters, what is assigned or walked, what is drawn in."""
    names = set()
    for part in ast.walk(tree):
        if isinstance(part, (ast.FunctionDef, ast.ClassDef)):
            names.add(part.name)
        elif isinstance(part, ast.arg):
            names.add(part.arg)
        elif isinstance(part, ast.Name) and isinstance(part.ctx, ast.Store):
            names.add(part.id)
        elif isinstance(part, ast.alias):
            names.add(part.asname or part.name)
    return names


class Language(unittest.TestCase):
    def test_the_package_has_plain_files_alone(self):
        names = sorted(path.name for path in PACKAGE.iterdir() if path.name != "__pycache__")
        self.assertIn("__init__.py", names)
        self.assertIn("nodes.py", names)
        for name in names:
            self.assertRegex(name, r"^(__init__|[a-z][a-z0-9_]*)\.py$")

    def test_sizes_and_signs(self):
        for path, text in sources():
            rows = text.split("\n")
            self.assertLessEqual(len(rows) - 1, 400, path)
            for row in rows:
                self.assertLessEqual(len(row), 120, row)
                self.assertTrue(all(" " <= sign <= "~" for sign in row), row)
            for part in ast.walk(ast.parse(text)):
                if isinstance(part, ast.FunctionDef):
                    self.assertLessEqual(part.end_lineno - part.lineno + 1, 40, part.name)

    def test_words(self):
        for path, text in sources():
            self.assertIsNone(FORBIDDEN_WORDS.search(text), path)

    def test_statements_and_expressions(self):
        for path, text in sources():
            for part in ast.walk(ast.parse(text)):
                where = (path.name, getattr(part, "lineno", None))
                if isinstance(part, ast.stmt):
                    self.assertIsInstance(part, STATEMENTS, where)
                if isinstance(part, ast.expr):
                    self.assertIsInstance(part, EXPRESSIONS, where)
                if isinstance(part, (ast.For, ast.While)):
                    self.assertEqual(part.orelse, [], where)
                if isinstance(part, ast.Constant):
                    self.assertIn(type(part.value), (int, str, bool, type(None)), where)

    def test_names(self):
        for path, text in sources():
            tree = ast.parse(text)
            bound = bound_names(tree)
            self.assertEqual(bound & BUILT_IN, set(), path)
            for name in bound - {"__init__"}:
                self.assertRegex(name, r"^[A-Za-z][A-Za-z0-9_]*$")
            for part in ast.walk(tree):
                if isinstance(part, ast.Name):
                    self.assertIn(part.id, bound | BUILT_IN, (path.name, part.lineno))

    def test_methods(self):
        for path, text in sources():
            tree = ast.parse(text)
            own = bound_names(tree)
            for part in ast.walk(tree):
                if isinstance(part, ast.Call) and isinstance(part.func, ast.Attribute):
                    self.assertIn(part.func.attr, METHODS | own, (path.name, part.lineno))

    def test_only_own_modules_are_drawn_in(self):
        for path, text in sources():
            for part in ast.walk(ast.parse(text)):
                if isinstance(part, ast.ImportFrom):
                    self.assertEqual(part.level, 0, path)
                    self.assertTrue(part.module.startswith("broughtover."), path)


if __name__ == "__main__":
    unittest.main()
