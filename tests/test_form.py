"""The form that the package's files keep to, as far as it can be told from the code alone."""

import ast
import pathlib
import re
import unittest

PACKAGE = pathlib.Path(__file__).resolve().parent.parent / "solidlayers"
FILES = sorted(PACKAGE.glob("*.py"))

STATEMENTS = (
    ast.Module, ast.FunctionDef, ast.ClassDef, ast.Assign, ast.AugAssign, ast.If, ast.While, ast.For, ast.Return,
    ast.Break, ast.Continue, ast.Pass, ast.Raise, ast.Try, ast.ExceptHandler, ast.Expr, ast.ImportFrom, ast.alias,
)
EXPRESSIONS = (
    ast.Constant, ast.Name, ast.List, ast.Tuple, ast.Dict, ast.BinOp, ast.UnaryOp, ast.BoolOp, ast.Compare, ast.IfExp,
    ast.Call, ast.keyword, ast.Attribute, ast.Subscript, ast.Slice, ast.ListComp, ast.comprehension, ast.Lambda,
    ast.JoinedStr, ast.FormattedValue, ast.arguments, ast.arg,
)
SIGNS = (ast.operator, ast.unaryop, ast.boolop, ast.cmpop, ast.expr_context)
BUILT_IN = set("""
    len range enumerate zip min max sum abs sorted reversed int str bool list tuple dict set frozenset isinstance ord
    repr any all divmod Exception ValueError TypeError KeyError IndexError LookupError ZeroDivisionError
    ArithmeticError OverflowError RuntimeError NotImplementedError AttributeError StopIteration
""".split())
METHODS = set("""
    append clear copy count endswith extend find get index insert isalnum isalpha isdigit islower isspace isupper items
    join keys ljust lower lstrip partition pop remove replace reverse rfind rjust rpartition rsplit rstrip setdefault
    split splitlines startswith strip update upper values zfill bit_length
""".split())
WORDS_NOT_USED = re.compile(
    r"\b(type|typing|typing_extensions|enum|Enum|IntEnum|StrEnum|Flag|IntFlag|Generic|Protocol|ABC|ABCMeta|namedtuple"
    r"|NamedTuple|TypedDict|TYPE_CHECKING|abstractmethod)\b|dataclass|overload|contextmanager"
)


def nodes_of(path):
    return list(ast.walk(ast.parse(path.read_text(encoding="utf-8"))))


def bound_names(nodes):
    """Every name that a file gives a meaning to."""
    names = [node.id for node in nodes if isinstance(node, ast.Name) and isinstance(node.ctx, ast.Store)]
    names += [node.name for node in nodes if isinstance(node, (ast.FunctionDef, ast.ClassDef))]
    names += [node.arg for node in nodes if isinstance(node, ast.arg)]
    names += [node.asname or node.name for node in nodes if isinstance(node, ast.alias)]
    return names + [node.name for node in nodes if isinstance(node, ast.ExceptHandler) and node.name]


class Form(unittest.TestCase):
    def test_files(self):
        self.assertIn("__init__.py", [path.name for path in FILES])
        others = [path for path in PACKAGE.iterdir() if path not in FILES and path.name != "__pycache__"]
        self.assertEqual(others, [])

    def test_size_and_signs(self):
        for path in FILES:
            text = path.read_bytes().decode("ascii")
            lines = text.split("\n")
            self.assertLessEqual(len(lines), 400, path)
            self.assertLessEqual(max(map(len, lines)), 120, path)
            self.assertEqual(set(text) - set(map(chr, range(32, 127))) - {"\n"}, set(), path)
            self.assertIsNone(WORDS_NOT_USED.search(text), path)

    def test_functions_are_short(self):
        for path in FILES:
            for node in nodes_of(path):
                if isinstance(node, ast.FunctionDef):
                    self.assertLessEqual(node.end_lineno - node.lineno + 1, 40, node.name)

    def test_statements_and_expressions(self):
        for path in FILES:
            for node in nodes_of(path):
                self.assertIsInstance(node, STATEMENTS + EXPRESSIONS + SIGNS, path)
                self.assertNotIsInstance(node, (ast.Div, ast.MatMult), path)
                if isinstance(node, ast.Constant):
                    self.assertIn(type(node.value), (int, str, bool, type(None)), path)
                if isinstance(node, (ast.For, ast.While)):
                    self.assertEqual(node.orelse, [], path)
                if isinstance(node, ast.Assign):
                    self.assertEqual(len(node.targets), 1, path)
                if isinstance(node, (ast.FunctionDef, ast.ClassDef)):
                    self.assertEqual(node.decorator_list, [], path)

    def test_names(self):
        python = set(dir(__builtins__) if not isinstance(__builtins__, dict) else __builtins__)
        for path in FILES:
            nodes = nodes_of(path)
            bound = bound_names(nodes)
            self.assertEqual([name for name in bound if name in python or name.startswith("_")], [], path)
            used = {node.id for node in nodes if isinstance(node, ast.Name)}
            self.assertEqual(used - set(bound) - BUILT_IN, set(), path)

    def test_methods(self):
        for path in FILES:
            nodes = nodes_of(path)
            own = {node.name for node in nodes if isinstance(node, ast.FunctionDef)}
            called = {node.func.attr for node in nodes if isinstance(node, ast.Call) and hasattr(node.func, "attr")}
            self.assertEqual(called - METHODS - own, set(), path)

    def test_imports(self):
        for path in FILES:
            for node in nodes_of(path):
                if isinstance(node, ast.ImportFrom):
                    self.assertEqual(node.level, 0, path)
                    self.assertTrue(node.module.startswith("solidlayers."), path)


if __name__ == "__main__":
    unittest.main()
