"""The part of Python that the package keeps to, as far as a short look at its files can tell (L1 to L28)."""

import ast
import builtins
import re
import unittest
from pathlib import Path

PACKAGE = Path(__file__).resolve().parent.parent / "markdesk"

STATEMENTS = (ast.FunctionDef, ast.ClassDef, ast.ImportFrom, ast.Assign, ast.AugAssign, ast.If, ast.While, ast.For,
              ast.Return, ast.Break, ast.Continue, ast.Pass, ast.Raise, ast.Try, ast.Expr)
EXPRESSIONS = (ast.Constant, ast.List, ast.Tuple, ast.Dict, ast.Set, ast.BinOp, ast.UnaryOp, ast.BoolOp, ast.Compare,
               ast.IfExp, ast.Call, ast.Attribute, ast.Subscript, ast.Slice, ast.ListComp, ast.Name, ast.Lambda,
               ast.JoinedStr, ast.FormattedValue)
AT_THE_TOP = (ast.ImportFrom, ast.FunctionDef, ast.ClassDef, ast.Assign)
OWN_NAMES = set("""
    len range enumerate zip min max sum abs sorted reversed int str bool list tuple dict set frozenset isinstance ord
    repr any all divmod Exception ValueError TypeError KeyError IndexError LookupError ZeroDivisionError
    ArithmeticError OverflowError RuntimeError NotImplementedError AttributeError StopIteration
""".split())
OWN_METHODS = set("""
    append clear copy count endswith extend find get index insert isalnum isalpha isdigit islower isspace isupper items
    join keys ljust lower lstrip partition pop remove replace reverse rfind rjust rpartition rsplit rstrip setdefault
    split splitlines startswith strip update upper values zfill bit_length
""".split())
NOT_A_WORD = re.compile(r"\b(type|typing|typing_extensions|enum|Enum|IntEnum|StrEnum|Flag|IntFlag|Generic|Protocol|ABC"
                        r"|ABCMeta|namedtuple|NamedTuple|TypedDict|TYPE_CHECKING|abstractmethod)\b"
                        r"|dataclass|overload|contextmanager")


# L26: what an object's value may be called though a value of Python's own has a method of that name.
VALUES_TOO = set("count index title find get join lower upper split strip copy add".split())
TAKEN = {name for kind in (str, int, list, tuple, dict, set, frozenset, bytes) for name in dir(kind)} - VALUES_TOO
NAME = re.compile(r"^[A-Za-z][A-Za-z0-9_]*$")


def files():
    return sorted(path for path in PACKAGE.rglob("*") if path.is_file() and path.parent.name != "__pycache__")


def nodes(kind):
    for path in files():
        for node in ast.walk(ast.parse(path.read_text())):
            if isinstance(node, kind):
                yield path.name, node


def bound_at_the_top(tree):
    """The names that a file's top binds, each as often as it is bound."""
    names = []
    for node in tree.body:
        if isinstance(node, ast.ImportFrom):
            names += [alias.asname or alias.name for alias in node.names]
        elif isinstance(node, (ast.FunctionDef, ast.ClassDef)):
            names.append(node.name)
        elif isinstance(node, ast.Assign):
            names += [target.id for target in node.targets]
    return names


def imported(tree):
    return [alias.name for node in tree.body if isinstance(node, ast.ImportFrom) for alias in node.names]


def imports_and_classes(tree):
    return imported(tree) + [node.name for node in tree.body if isinstance(node, ast.ClassDef)]


class Language(unittest.TestCase):
    def test_files(self):
        self.assertIn(PACKAGE / "__init__.py", files())
        for path in files():
            self.assertRegex(path.name, r"^(__init__|[a-z][a-z0-9_]*)\.py$")

    def test_signs_words_and_sizes(self):
        for path in files():
            source = path.read_text(encoding="utf-8")
            self.assertRegex(source, r"^[ -~\n]*$", path)
            self.assertIsNone(NOT_A_WORD.search(source), path)
            rows = source.split("\n")
            self.assertLessEqual(len(rows), 400, path)
            self.assertLessEqual(max(len(row) for row in rows), 120, path)

    def test_statements_and_expressions(self):
        for where, node in nodes(ast.stmt):
            self.assertIsInstance(node, STATEMENTS, (where, node.lineno))
        for where, node in nodes(ast.expr):
            self.assertIsInstance(node, EXPRESSIONS, (where, node.lineno))
        for where, node in nodes((ast.Div, ast.MatMult, ast.Is, ast.IsNot)):
            self.fail((where, node))
        for where, node in nodes(ast.Constant):
            self.assertIn(node.value.__class__, (int, str, bool, None.__class__), (where, node.lineno))
        for where, node in nodes(ast.Assign):
            self.assertEqual(len(node.targets), 1, (where, node.lineno))
        for where, node in nodes((ast.For, ast.While)):
            self.assertEqual(node.orelse, [], (where, node.lineno))

    def test_top_of_each_module(self):
        for path in files():
            body = ast.parse(path.read_text()).body
            self.assertIsInstance(body[0], ast.Expr, path)
            for node in body[1:]:
                self.assertIsInstance(node, AT_THE_TOP, (path, node.lineno))
        for where, node in nodes(ast.ImportFrom):
            self.assertEqual((node.level, node.col_offset), (0, 0), (where, node.lineno))
            self.assertRegex(node.module, r"^markdesk\.", (where, node.lineno))

    def test_functions(self):
        for where, node in nodes(ast.FunctionDef):
            self.assertLessEqual(node.end_lineno - node.lineno + 1, 40, (where, node.name))
            given = node.args
            self.assertEqual((node.decorator_list, given.vararg, given.kwarg, given.kwonlyargs, given.posonlyargs),
                             ([], None, None, [], []), (where, node.name))
            for parameter in given.args:
                self.assertFalse(hasattr(builtins, parameter.arg), (where, node.name, parameter.arg))
                self.assertNotEqual(parameter.arg[0], "_", (where, node.name))

    def test_names(self):
        for where, node in nodes(ast.Name):
            self.assertNotEqual(node.id[0], "_", (where, node.lineno))
            if hasattr(builtins, node.id):
                self.assertIn(node.id, OWN_NAMES, (where, node.lineno))
                self.assertIsInstance(node.ctx, ast.Load, (where, node.lineno))
        for where, node in nodes(ast.Call):
            if isinstance(node.func, ast.Attribute):
                self.assertIn(node.func.attr, OWN_METHODS, (where, node.lineno))

    def test_plain_names(self):
        for where, node in nodes((ast.arg, ast.Attribute, ast.FunctionDef, ast.ClassDef)):
            name = getattr(node, "arg", None) or getattr(node, "attr", None) or node.name
            if name != "__init__":
                self.assertRegex(name, NAME, (where, node.lineno))

    def test_each_name_once(self):
        for path in files():
            tree = ast.parse(path.read_text())
            names = bound_at_the_top(tree)
            self.assertEqual(len(set(names)), len(names), path)
            taken = imports_and_classes(tree)
            for node in ast.walk(tree):
                if isinstance(node, ast.arg):
                    self.assertNotIn(node.arg, taken, (path, node.lineno))
                if isinstance(node, ast.Name) and isinstance(node.ctx, ast.Store):
                    self.assertNotIn(node.id, taken, (path, node.lineno))

    def test_imports_from_where_the_name_is_defined(self):
        for where, node in nodes(ast.ImportFrom):
            source = PACKAGE.parent.joinpath(*node.module.split(".")).with_suffix(".py")
            tree = ast.parse(source.read_text())
            for alias in node.names:
                self.assertIn(alias.name, bound_at_the_top(tree), (where, node.lineno))
                self.assertNotIn(alias.name, imported(tree), (where, node.lineno))

    def test_no_annotations(self):
        for where, node in nodes(ast.arg):
            self.assertIsNone(node.annotation, (where, node.lineno))
        for where, node in nodes(ast.FunctionDef):
            self.assertIsNone(node.returns, (where, node.lineno))

    def test_values_of_objects(self):
        for where, node in nodes(ast.Attribute):
            if isinstance(node.ctx, ast.Store):
                self.assertNotIn(node.attr, TAKEN, (where, node.lineno))

    def test_powers_and_texts(self):
        for where, node in nodes(ast.BinOp):
            if isinstance(node.op, ast.Pow):
                self.assertIsInstance(node.right, ast.Constant, (where, node.lineno))
                self.assertIn(node.right.value, range(65), (where, node.lineno))
        for where, node in nodes(ast.Constant):
            if isinstance(node.value, str):
                self.assertNotIn("%", node.value, (where, node.lineno))

    def test_init_gives_back_nothing(self):
        for where, node in nodes(ast.FunctionDef):
            if node.name == "__init__":
                given_back = [inner.value for inner in ast.walk(node) if isinstance(inner, ast.Return)]
                self.assertEqual([value for value in given_back if value is not None], [], (where, node.lineno))

    def test_methods_with_two_underscores(self):
        for where, node in nodes(ast.FunctionDef):
            if node.name.startswith("__"):
                self.assertEqual(node.name, "__init__", (where, node.lineno))


if __name__ == "__main__":
    unittest.main()
