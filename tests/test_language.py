"""The plainest of the language's rules, so that a slip is seen at once; it does not stand for all of them."""

import ast
import builtins
import pathlib
import re
import unittest

PACKAGE = pathlib.Path(__file__).resolve().parent.parent / "valueslots"
FILES = sorted(PACKAGE.rglob("*.py"))
STATEMENTS = (
    ast.Assign, ast.AugAssign, ast.If, ast.While, ast.For, ast.Return, ast.Break, ast.Continue, ast.Pass, ast.Raise,
    ast.Try, ast.Expr, ast.FunctionDef, ast.ClassDef, ast.ImportFrom,
)
NOT_WRITTEN = (
    ast.Yield, ast.YieldFrom, ast.Await, ast.SetComp, ast.DictComp, ast.GeneratorExp, ast.NamedExpr, ast.Starred,
    ast.Div, ast.MatMult,
)
OWN_NAMES = set(
    "len range enumerate zip min max sum abs sorted reversed int str bool list tuple dict set frozenset isinstance ord"
    " repr any all divmod Exception ValueError TypeError KeyError IndexError LookupError ZeroDivisionError"
    " ArithmeticError OverflowError RuntimeError NotImplementedError AttributeError StopIteration".split()
)
WORDS = re.compile(
    r"\b(type|typing|typing_extensions|enum|Enum|IntEnum|StrEnum|Flag|IntFlag|Generic|Protocol|ABC|ABCMeta|namedtuple"
    r"|NamedTuple|TypedDict|TYPE_CHECKING|abstractmethod)\b|dataclass|overload|contextmanager"
)


def nodes(path):
    return list(ast.walk(ast.parse(path.read_text())))


class Language(unittest.TestCase):
    def check(self, path, line, holds, rule):
        self.assertTrue(holds, f"{rule}: {path.name}, line {line}")

    def test_files(self):
        self.assertIn(PACKAGE / "__init__.py", FILES)
        others = [path for path in PACKAGE.rglob("*") if path not in FILES and "__pycache__" not in path.parts]
        self.assertEqual(others, [])

    def test_signs_and_sizes(self):
        for path in FILES:
            lines = path.read_text(encoding="utf-8").split("\n")
            self.check(path, len(lines), len(lines) <= 400, "L10")
            for number, text in enumerate(lines, start=1):
                self.check(path, number, len(text) <= 120, "L10")
                self.check(path, number, all(" " <= sign <= "~" for sign in text), "L14")
                self.check(path, number, WORDS.search(text) is None, "L17")

    def test_statements_and_expressions(self):
        for path in FILES:
            for node in nodes(path):
                if isinstance(node, ast.stmt):
                    self.check(path, node.lineno, isinstance(node, STATEMENTS), "L6")
                if isinstance(node, ast.Assign):
                    self.check(path, node.lineno, len(node.targets) == 1, "L6")
                if isinstance(node, ast.Expr):
                    is_docstring = node.lineno == 1 and node.col_offset == 0
                    self.check(path, node.lineno, isinstance(node.value, ast.Call) or is_docstring, "L6")
                if isinstance(node, NOT_WRITTEN):
                    self.check(path, getattr(node, "lineno", 0), False, "L7")
                if isinstance(node, ast.Constant):
                    self.check(path, node.lineno, not isinstance(node.value, (float, bytes)), "L7")

    def test_functions(self):
        for path in FILES:
            for node in nodes(path):
                if isinstance(node, ast.FunctionDef):
                    self.check(path, node.lineno, node.end_lineno - node.lineno < 40, "L10")
                    self.check(path, node.lineno, node.decorator_list == [], "L4")
                    self.check(path, node.lineno, not (node.args.vararg or node.args.kwarg or node.args.kwonlyargs), "L4")

    def test_imports(self):
        for path in FILES:
            for node in nodes(path):
                if isinstance(node, ast.ImportFrom):
                    self.check(path, node.lineno, node.level == 0 and node.module.startswith("valueslots."), "L2")

    def test_names(self):
        for path in FILES:
            for node in nodes(path):
                if isinstance(node, ast.Name):
                    self.check(path, node.lineno, node.id in OWN_NAMES or not hasattr(builtins, node.id), "L8")
                    self.check(path, node.lineno, not node.id.startswith("_"), "L12")
                if isinstance(node, ast.arg):
                    self.check(path, node.lineno, not hasattr(builtins, node.arg), "L15")


if __name__ == "__main__":
    unittest.main()
