"""The plainest of the language's rules, so that a slip is seen at once; it does not stand for all of them."""

import ast
import builtins
import pathlib
import re
import sys
import unittest

PACKAGE = pathlib.Path(__file__).resolve().parent.parent / "valueslots"
FILES = sorted(PACKAGE.rglob("*.py"))
STATEMENTS = (
    ast.Assign, ast.AugAssign, ast.If, ast.While, ast.For, ast.Return, ast.Break, ast.Continue, ast.Pass, ast.Raise,
    ast.Try, ast.Expr, ast.FunctionDef, ast.ClassDef, ast.ImportFrom,
)
NOT_WRITTEN = (
    ast.Yield, ast.YieldFrom, ast.Await, ast.SetComp, ast.DictComp, ast.GeneratorExp, ast.NamedExpr, ast.Starred,
    ast.Div, ast.MatMult,
)
OWN_NAMES = set(
    "len range enumerate zip min max sum abs sorted reversed int str bool list tuple dict set frozenset isinstance ord"
    " repr any all divmod Exception ValueError TypeError KeyError IndexError LookupError ZeroDivisionError"
    " ArithmeticError OverflowError RuntimeError NotImplementedError AttributeError StopIteration".split()
)
WORDS = re.compile(
    r"\b(type|typing|typing_extensions|enum|Enum|IntEnum|StrEnum|Flag|IntFlag|Generic|Protocol|ABC|ABCMeta|namedtuple"
    r"|NamedTuple|TypedDict|TYPE_CHECKING|abstractmethod)\b|dataclass|overload|contextmanager"
)
METHODS = set(
    "append clear copy count endswith extend find get index insert isalnum isalpha isdigit islower isspace isupper items"
    " join keys ljust lower lstrip partition pop remove replace reverse rfind rjust rpartition rsplit rstrip setdefault"
    " split splitlines startswith strip update upper values zfill bit_length".split()
)
NOT_NAMED = set(
    "register mro elements open input version_info with_traceback add_note attrgetter breakpoint builtins compile"
    " copyright credits delattr dir eval exec exit gc getattr globals hasattr help id importlib license locals"
    " methodcaller os quit setattr super type vars sys".split()
)


def nodes(path):
    return list(ast.walk(ast.parse(path.read_text())))


class Language(unittest.TestCase):
    def check(self, path, line, holds, rule):
        self.assertTrue(holds, f"{rule}: {path.name}, line {line}")

    def test_files(self):
        self.assertIn(PACKAGE / "__init__.py", FILES)
        others = [path for path in PACKAGE.rglob("*") if path not in FILES and "__pycache__" not in path.parts]
        self.assertEqual(others, [])
        for path in FILES:
            taken = path.stem in sys.stdlib_module_names or hasattr(builtins, path.stem)
            self.check(path, 1, path.stem == "__init__" or (path.stem.isalpha() and path.stem.islower() and not taken), "L14")

    def test_signs_and_sizes(self):
        for path in FILES:
            lines = path.read_text(encoding="utf-8").split("\n")
            self.check(path, len(lines), len(lines) <= 400, "L10")
            for number, text in enumerate(lines, start=1):
                self.check(path, number, len(text) <= 120, "L10")
                self.check(path, number, all(" " <= sign <= "~" for sign in text), "L14")
                self.check(path, number, WORDS.search(text) is None, "L17")

    def test_statements_and_expressions(self):
        for path in FILES:
            for node in nodes(path):
                if isinstance(node, ast.stmt):
                    self.check(path, node.lineno, isinstance(node, STATEMENTS), "L6")
                if isinstance(node, ast.Assign):
                    self.check(path, node.lineno, len(node.targets) == 1, "L6")
                if isinstance(node, ast.Expr):
                    is_docstring = node.lineno == 1 and node.col_offset == 0
                    self.check(path, node.lineno, isinstance(node.value, ast.Call) or is_docstring, "L6")
                if isinstance(node, NOT_WRITTEN):
                    self.check(path, getattr(node, "lineno", 0), False, "L7")
                if isinstance(node, ast.Constant):
                    self.check(path, node.lineno, not isinstance(node.value, (float, bytes)), "L7")

    def test_functions(self):
        for path in FILES:
            for node in nodes(path):
                if isinstance(node, ast.FunctionDef):
                    self.check(path, node.lineno, node.end_lineno - node.lineno < 40, "L10")
                    self.check(path, node.lineno, node.decorator_list == [], "L4")
                    self.check(path, node.lineno, not (node.args.vararg or node.args.kwarg or node.args.kwonlyargs), "L4")

    def test_imports(self):
        for path in FILES:
            for node in nodes(path):
                if isinstance(node, ast.ImportFrom):
                    self.check(path, node.lineno, node.level == 0 and node.module.startswith("valueslots."), "L2")

    def test_imports_name_what_the_file_itself_defines(self):
        defined = {}
        for path in FILES:
            body = ast.parse(path.read_text()).body
            names = [node.name for node in body if isinstance(node, (ast.FunctionDef, ast.ClassDef))]
            names += [node.targets[0].id for node in body if isinstance(node, ast.Assign)]
            self.assertEqual(len(set(names)), len(names), path)
            defined[f"valueslots.{path.stem}"] = names
        for path in FILES:
            for node in nodes(path):
                if isinstance(node, ast.ImportFrom):
                    for name in node.names:
                        self.check(path, node.lineno, name.name in defined[node.module] and name.asname is None, "L16")

    def test_no_two_files_draw_from_one_another(self):
        drawn = {}
        for path in FILES:
            drawn[path.stem] = {n.module.split(".")[1] for n in nodes(path) if isinstance(n, ast.ImportFrom)}
        while drawn:
            free = [name for name in drawn if not drawn[name] & set(drawn)]
            self.assertNotEqual(free, [], f"L16: {sorted(drawn)}")
            drawn = {name: drawn[name] for name in drawn if name not in free}

    def test_locals_are_not_called_like_an_import_or_a_class(self):
        for path in FILES:
            tree = ast.parse(path.read_text())
            top = {name.name for node in tree.body if isinstance(node, ast.ImportFrom) for name in node.names}
            top |= {node.name for node in tree.body if isinstance(node, ast.ClassDef)}
            for node in ast.walk(tree):
                if isinstance(node, ast.arg):
                    self.check(path, node.lineno, node.arg not in top, "L15")
                if isinstance(node, ast.Name) and isinstance(node.ctx, ast.Store):
                    self.check(path, node.lineno, node.id not in top and not hasattr(builtins, node.id), "L15")

    def test_methods(self):
        own = {node.name for path in FILES for node in nodes(path) if isinstance(node, ast.FunctionDef)}
        for path in FILES:
            for node in nodes(path):
                if isinstance(node, ast.Call) and isinstance(node.func, ast.Attribute):
                    self.check(path, node.lineno, node.func.attr in METHODS | own, "L25")
                if isinstance(node, ast.Attribute):
                    self.check(path, node.lineno, node.attr not in NOT_NAMED, "L17")

    def test_sets_are_not_kept(self):
        for path in FILES:
            tree = ast.parse(path.read_text())
            sets = [n for n in ast.walk(tree) if isinstance(n, ast.Call) and ast.unparse(n.func) in ("set", "frozenset")]
            within = [
                arg for n in ast.walk(tree) if isinstance(n, ast.Call) and ast.unparse(n.func) in ("sorted", "len")
                for arg in n.args
            ]
            for node in sets:
                self.check(path, node.lineno, node in within, "L24")

    def test_names(self):
        for path in FILES:
            for node in nodes(path):
                if isinstance(node, ast.Name):
                    self.check(path, node.lineno, node.id in OWN_NAMES or not hasattr(builtins, node.id), "L8")
                    self.check(path, node.lineno, not node.id.startswith("_"), "L12")
                    self.check(path, node.lineno, node.id not in NOT_NAMED, "L17")
                if isinstance(node, ast.arg):
                    self.check(path, node.lineno, not hasattr(builtins, node.arg), "L15")


if __name__ == "__main__":
    unittest.main()
