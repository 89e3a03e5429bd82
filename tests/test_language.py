"""The part of Python that the package keeps to, as far as a short look at its files can tell (L1 to L25)."""

import ast
import builtins
import re
import unittest
from pathlib import Path

PACKAGE = Path(__file__).resolve().parent.parent / "markdesk"

STATEMENTS = (ast.FunctionDef, ast.ClassDef, ast.ImportFrom, ast.Assign, ast.AugAssign, ast.If, ast.While, ast.For,
              ast.Return, ast.Break, ast.Continue, ast.Pass, ast.Raise, ast.Try, ast.Expr)
EXPRESSIONS = (ast.Constant, ast.List, ast.Tuple, ast.Dict, ast.Set, ast.BinOp, ast.UnaryOp, ast.BoolOp, ast.Compare,
               ast.IfExp, ast.Call, ast.Attribute, ast.Subscript, ast.Slice, ast.ListComp, ast.Name, ast.Lambda,
               ast.JoinedStr, ast.FormattedValue)
AT_THE_TOP = (ast.ImportFrom, ast.FunctionDef, ast.ClassDef, ast.Assign)
OWN_NAMES = set("""
    len range enumerate zip min max sum abs sorted reversed int str bool list tuple dict set frozenset isinstance ord
    repr any all divmod Exception ValueError TypeError KeyError IndexError LookupError ZeroDivisionError
    ArithmeticError OverflowError RuntimeError NotImplementedError AttributeError StopIteration
""".split())
OWN_METHODS = set("""
    append clear copy count endswith extend find get index insert isalnum isalpha isdigit islower isspace isupper items
    join keys ljust lower lstrip partition pop remove replace reverse rfind rjust rpartition rsplit rstrip setdefault
    split splitlines startswith strip update upper values zfill bit_length
""".split())
NOT_A_WORD = re.compile(r"\b(type|typing|typing_extensions|enum|Enum|IntEnum|StrEnum|Flag|IntFlag|Generic|Protocol|ABC"
                        r"|ABCMeta|namedtuple|NamedTuple|TypedDict|TYPE_CHECKING|abstractmethod)\b"
                        r"|dataclass|overload|contextmanager")


def files():
    return sorted(path for path in PACKAGE.rglob("*") if path.is_file() and path.parent.name != "__pycache__")


def nodes(kind):
    for path in files():
        for node in ast.walk(ast.parse(path.read_text())):
            if isinstance(node, kind):
                yield path.name, node


class Language(unittest.TestCase):
    def test_files(self):
        self.assertIn(PACKAGE / "__init__.py", files())
        for path in files():
            self.assertRegex(path.name, r"^(__init__|[a-z][a-z0-9_]*)\.py$")

    def test_signs_words_and_sizes(self):
        for path in files():
            source = path.read_text(encoding="utf-8")
            self.assertRegex(source, r"^[ -~\n]*$", path)
            self.assertIsNone(NOT_A_WORD.search(source), path)
            rows = source.split("\n")
            self.assertLessEqual(len(rows), 400, path)
            self.assertLessEqual(max(len(row) for row in rows), 120, path)

    def test_statements_and_expressions(self):
        for where, node in nodes(ast.stmt):
            self.assertIsInstance(node, STATEMENTS, (where, node.lineno))
        for where, node in nodes(ast.expr):
            self.assertIsInstance(node, EXPRESSIONS, (where, node.lineno))
        for where, node in nodes((ast.Div, ast.MatMult, ast.Is, ast.IsNot)):
            self.fail((where, node))
        for where, node in nodes(ast.Constant):
            self.assertIn(node.value.__class__, (int, str, bool, None.__class__), (where, node.lineno))
        for where, node in nodes(ast.Assign):
            self.assertEqual(len(node.targets), 1, (where, node.lineno))
        for where, node in nodes((ast.For, ast.While)):
            self.assertEqual(node.orelse, [], (where, node.lineno))

    def test_top_of_each_module(self):
        for path in files():
            body = ast.parse(path.read_text()).body
            self.assertIsInstance(body[0], ast.Expr, path)
            for node in body[1:]:
                self.assertIsInstance(node, AT_THE_TOP, (path, node.lineno))
        for where, node in nodes(ast.ImportFrom):
            self.assertEqual((node.level, node.col_offset), (0, 0), (where, node.lineno))
            self.assertRegex(node.module, r"^markdesk\.", (where, node.lineno))

    def test_functions(self):
        for where, node in nodes(ast.FunctionDef):
            self.assertLessEqual(node.end_lineno - node.lineno + 1, 40, (where, node.name))
            given = node.args
            self.assertEqual((node.decorator_list, given.vararg, given.kwarg, given.kwonlyargs, given.posonlyargs),
                             ([], None, None, [], []), (where, node.name))
            for parameter in given.args:
                self.assertFalse(hasattr(builtins, parameter.arg), (where, node.name, parameter.arg))
                self.assertNotEqual(parameter.arg[0], "_", (where, node.name))

    def test_names(self):
        for where, node in nodes(ast.Name):
            self.assertNotEqual(node.id[0], "_", (where, node.lineno))
            if hasattr(builtins, node.id):
                self.assertIn(node.id, OWN_NAMES, (where, node.lineno))
                self.assertIsInstance(node.ctx, ast.Load, (where, node.lineno))
        for where, node in nodes(ast.Call):
            if isinstance(node.func, ast.Attribute):
                self.assertIn(node.func.attr, OWN_METHODS, (where, node.lineno))


if __name__ == "__main__":
    unittest.main()
