"""What can be seen of the rules of the language from the package's text alone."""
import ast
import builtins
import pathlib
import re
import unittest

PACKAGE = pathlib.Path(__file__).resolve().parent.parent / "homeplaces"

STATEMENTS = (
    ast.Module, ast.FunctionDef, ast.ClassDef, ast.Assign, ast.AugAssign, ast.If, ast.While, ast.For, ast.Return,
    ast.Break, ast.Continue, ast.Pass, ast.Raise, ast.Expr)
EXPRESSIONS = (
    ast.Constant, ast.Name, ast.Attribute, ast.Subscript, ast.Slice, ast.Call, ast.List, ast.Tuple, ast.Dict,
    ast.BinOp, ast.UnaryOp, ast.BoolOp, ast.Compare, ast.IfExp, ast.arguments, ast.arg, ast.keyword)
OPERATORS = (
    ast.Add, ast.Sub, ast.Mult, ast.FloorDiv, ast.Mod, ast.BitAnd, ast.BitOr, ast.BitXor, ast.LShift, ast.RShift,
    ast.Invert, ast.USub, ast.Not, ast.And, ast.Or, ast.cmpop, ast.expr_context)
OWN_NAMES = (
    "len", "range", "enumerate", "zip", "min", "max", "sum", "abs", "sorted", "reversed", "int", "list", "tuple",
    "dict", "any", "all", "divmod", "Exception", "ValueError", "KeyError")
WORDS_NOWHERE = re.compile(
    r"\b(type|typing|typing_extensions|enum|Enum|IntEnum|StrEnum|Flag|IntFlag|Generic|Protocol|ABC|ABCMeta|namedtuple"
    r"|NamedTuple|TypedDict|TYPE_CHECKING|abstractmethod)\b|dataclass|overload|contextmanager")
PLAIN = (ast.Constant, ast.List, ast.Tuple, ast.Dict)


def texts():
    return [(path.name, path.read_text(encoding="utf-8")) for path in sorted(PACKAGE.glob("*.py"))]


def nodes():
    return [(name, node) for name, text in texts() for node in ast.walk(ast.parse(text))]


class Language(unittest.TestCase):
    def test_files(self):
        found = sorted(path.name for path in PACKAGE.iterdir() if path.name != "__pycache__")
        self.assertEqual(found, ["__init__.py", "table.py"])

    def test_signs_and_sizes(self):
        for name, text in texts():
            rows = text.split("\n")
            self.assertLessEqual(len(rows), 400, name)
            self.assertRegex(text, r"\A[ -~\n]*\Z", name)
            self.assertIsNone(WORDS_NOWHERE.search(text), name)
            for row in rows:
                self.assertLessEqual(len(row), 120, name)

    def test_kinds_of_nodes(self):
        for name, node in nodes():
            with self.subTest(name=name, node=ast.dump(node)):
                self.assertIsInstance(node, STATEMENTS + EXPRESSIONS + OPERATORS)

    def test_functions(self):
        for name, node in nodes():
            if isinstance(node, ast.FunctionDef):
                with self.subTest(name=name, function=node.name):
                    self.assertLessEqual(node.end_lineno - node.lineno + 1, 40)
                    self.assertEqual(node.decorator_list, [])
                    self.assertIsNone(node.args.vararg or node.args.kwarg)
                    self.assertEqual(node.args.kwonlyargs + node.args.posonlyargs, [])

    def test_names(self):
        for name, node in nodes():
            if isinstance(node, ast.Name) and hasattr(builtins, node.id):
                self.assertIn(node.id, OWN_NAMES, name)
                self.assertIsInstance(node.ctx, ast.Load, name)
            if isinstance(node, ast.arg):
                self.assertFalse(hasattr(builtins, node.arg), node.arg)
            for found in (getattr(node, "id", None), getattr(node, "arg", None), getattr(node, "attr", None)):
                self.assertRegex(found or "plain", r"\A[A-Za-z][A-Za-z0-9_]*\Z", name)

    def test_assignments(self):
        for name, node in nodes():
            if isinstance(node, ast.Assign):
                self.assertEqual(len(node.targets), 1, name)
                self.assertNotIsInstance(node.targets[0], (ast.Tuple, ast.List), name)

    def test_tops_of_files(self):
        for name, text in texts():
            bound = []
            for node in ast.parse(text).body[1:]:
                self.assertIsInstance(node, (ast.FunctionDef, ast.ClassDef, ast.Assign), name)
                if isinstance(node, ast.Assign):
                    self.assertIsInstance(node.value, PLAIN, name)
                bound.append(node.targets[0].id if isinstance(node, ast.Assign) else node.name)
            self.assertEqual(len(bound), len(set(bound)), name)


if __name__ == "__main__":
    unittest.main()
