"""That the package keeps to its small part of Python, as far as a walk through its files shows."""

import ast
import builtins
import re
import unittest
from pathlib import Path

PACKAGE = Path(__file__).resolve().parent.parent / "linesleft"

STATEMENTS = """Module FunctionDef ClassDef arguments arg Assign AugAssign If While For Return Break Continue Pass Raise
    Try ExceptHandler Expr ImportFrom alias Import Lambda""".split()
EXPRESSIONS = """Constant List Tuple Dict Name Attribute Subscript Slice Call Compare BoolOp BinOp UnaryOp IfExp
    ListComp comprehension JoinedStr FormattedValue keyword Load Store""".split()
SIGNS = """Add Sub Mult FloorDiv Mod Pow BitAnd BitOr BitXor LShift RShift Invert USub UAdd Not And Or Eq NotEq Lt LtE
    Gt GtE In NotIn Is IsNot""".split()
OWN_NAMES = """len range enumerate zip min max sum abs sorted reversed int str bool list tuple dict set frozenset
    isinstance ord repr any all divmod Exception ValueError TypeError KeyError IndexError LookupError
    ZeroDivisionError ArithmeticError OverflowError RuntimeError NotImplementedError AttributeError
    StopIteration""".split()
OWN_METHODS = """append clear copy count endswith extend find get index insert isalnum isalpha isdigit islower isspace
    isupper items join keys ljust lower lstrip partition pop remove replace reverse rfind rjust rpartition rsplit
    rstrip setdefault split splitlines startswith strip update upper values zfill bit_length""".split()
UNDERSCORED = ["__init__", "__eq__", "__repr__", "__str__", "__len__"]
WORDS_LEFT_OUT = re.compile(r"\b(type|typing|typing_extensions|enum|Enum|IntEnum|StrEnum|Flag|IntFlag|Generic|Protocol"
                            r"|ABC|ABCMeta|namedtuple|NamedTuple|TypedDict|TYPE_CHECKING|abstractmethod)\b"
                            r"|dataclass|overload|contextmanager")


def texts():
    return {path.name: path.read_text() for path in sorted(PACKAGE.glob("*.py"))}


def nodes():
    for name, text in texts().items():
        for node in ast.walk(ast.parse(text)):
            yield name, node


class Files(unittest.TestCase):
    def test_only_plain_python_files(self):
        for path in PACKAGE.rglob("*"):
            if "__pycache__" not in path.parts:
                self.assertRegex(path.name, r"^[a-z0-9_]+\.py$")
        self.assertIn("__init__.py", texts())

    def test_signs_and_sizes(self):
        for name, text in texts().items():
            self.assertRegex(text, r"\A[ -~\n]*\Z", name)
            self.assertLessEqual(len(text.splitlines()), 400, name)
            self.assertLessEqual(max(len(row) for row in text.splitlines()), 120, name)
            self.assertIsNone(WORDS_LEFT_OUT.search(text), name)

    def test_functions_are_small(self):
        for name, node in nodes():
            if isinstance(node, ast.FunctionDef):
                self.assertLessEqual(node.end_lineno - node.lineno + 1, 40, (name, node.name))


class Forms(unittest.TestCase):
    def test_only_forms_that_are_told(self):
        for name, node in nodes():
            self.assertIn(node.__class__.__name__, STATEMENTS + EXPRESSIONS + SIGNS, (name, ast.dump(node)))

    def test_narrow_forms(self):
        for name, node in nodes():
            where = (name, ast.dump(node))
            if isinstance(node, ast.Assign):
                self.assertEqual(len(node.targets), 1, where)
            if isinstance(node, (ast.For, ast.While)):
                self.assertEqual(node.orelse, [], where)
            if isinstance(node, (ast.FunctionDef, ast.ClassDef)):
                self.assertEqual(node.decorator_list, [], where)
            if isinstance(node, ast.arguments):
                self.assertEqual((node.vararg, node.kwarg, node.kwonlyargs, node.posonlyargs), (None, None, [], []))
            if isinstance(node, ast.ListComp):
                self.assertEqual(len(node.generators), 1, where)
                self.assertLessEqual(len(node.generators[0].ifs), 1, where)
            if isinstance(node, ast.Constant):
                self.assertIn(node.value.__class__, (int, str, bool, None.__class__), where)
            if isinstance(node, ast.Compare) and any(isinstance(sign, (ast.Is, ast.IsNot)) for sign in node.ops):
                self.assertIn(ast.unparse(node.comparators[0]), ("None", "True", "False"), where)

    def test_imports(self):
        for name, node in nodes():
            if isinstance(node, ast.ImportFrom):
                self.assertEqual(node.level, 0, name)
                self.assertRegex(node.module, r"^linesleft\.", name)
            self.assertNotIsInstance(node, ast.Import, name)


class Names(unittest.TestCase):
    def test_pythons_own_names(self):
        for name, node in nodes():
            if isinstance(node, ast.Name) and node.id in dir(builtins):
                self.assertIn(node.id, OWN_NAMES, name)
                self.assertIsInstance(node.ctx, ast.Load, (name, node.id))
            if isinstance(node, ast.arg):
                self.assertNotIn(node.arg, dir(builtins), name)

    def test_no_name_begins_with_an_underscore(self):
        for name, node in nodes():
            for found in (getattr(node, "id", None), getattr(node, "attr", None), getattr(node, "name", None),
                          getattr(node, "arg", None)):
                if isinstance(found, str) and found not in UNDERSCORED:
                    self.assertFalse(found.startswith("_"), (name, found))

    def test_no_local_is_called_like_an_import_or_a_class(self):
        for name, text in texts().items():
            tree = ast.parse(text)
            taken = [each.name for each in tree.body if isinstance(each, ast.ClassDef)]
            taken += [each.name for row in tree.body if isinstance(row, ast.ImportFrom) for each in row.names]
            self.assertEqual(len(taken), len(set(taken)), name)
            for node in ast.walk(tree):
                if isinstance(node, ast.Name) and isinstance(node.ctx, ast.Store):
                    self.assertNotIn(node.id, taken, name)
                if isinstance(node, ast.arg):
                    self.assertNotIn(node.arg, taken, name)

    def test_no_name_is_a_method_and_a_value(self):
        methods = [each.name for name, node in nodes() if isinstance(node, ast.ClassDef)
                   for each in node.body if isinstance(each, ast.FunctionDef)]
        self.assertEqual(len(methods), len(set(methods)))
        for name, node in nodes():
            if isinstance(node, ast.Attribute) and isinstance(node.ctx, ast.Store):
                self.assertNotIn(node.attr, methods, name)
                for kind in (str, int, list, dict, set, bytes, tuple):
                    self.assertFalse(hasattr(kind, node.attr), (name, node.attr))

    def test_methods(self):
        own = [each.name for name, node in nodes() if isinstance(node, ast.ClassDef)
               for each in node.body if isinstance(each, ast.FunctionDef)]
        for name, node in nodes():
            if isinstance(node, ast.Call) and isinstance(node.func, ast.Attribute):
                self.assertIn(node.func.attr, OWN_METHODS + own, name)


if __name__ == "__main__":
    unittest.main()
