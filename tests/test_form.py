"""The part of Python that the package keeps to, as far as it can be read from the files."""

import ast
import builtins
import pathlib
import re
import unittest

PACKAGE = pathlib.Path(__file__).resolve().parent.parent / "eitherend"

STATEMENTS = (
    ast.Module, ast.FunctionDef, ast.ClassDef, ast.Assign, ast.AugAssign, ast.If, ast.While, ast.For, ast.Return,
    ast.Break, ast.Continue, ast.Pass, ast.Raise, ast.Expr, ast.arguments, ast.arg,
)
EXPRESSIONS = (
    ast.Constant, ast.Name, ast.List, ast.Tuple, ast.Dict, ast.BinOp, ast.UnaryOp, ast.BoolOp, ast.Compare,
    ast.IfExp, ast.Call, ast.Attribute, ast.Subscript, ast.Slice, ast.ListComp, ast.comprehension, ast.keyword,
    ast.JoinedStr, ast.FormattedValue, ast.expr_context, ast.boolop, ast.operator, ast.unaryop, ast.cmpop,
)
NOT_USED = (ast.Div, ast.MatMult, ast.Is, ast.IsNot)
BUILT_IN = set(
    "len range enumerate zip min max sum abs sorted reversed int str bool list tuple dict isinstance ord repr any all "
    "divmod ValueError KeyError ZeroDivisionError".split()
)
METHODS = set(
    "append clear copy count endswith extend find get index insert items join keys pop remove replace reverse "
    "setdefault split update values bit_length".split()
)
WORDS = re.compile(
    r"\b(type|typing|typing_extensions|enum|Enum|IntEnum|StrEnum|Flag|IntFlag|Generic|Protocol|ABC|ABCMeta|namedtuple"
    r"|NamedTuple|TypedDict|TYPE_CHECKING|abstractmethod)\b|dataclass|overload|contextmanager"
)
NAME = re.compile(r"^[A-Za-z][A-Za-z0-9_]*$")


def files():
    return sorted(path for path in PACKAGE.rglob("*") if "__pycache__" not in path.parts)


def nodes(path):
    return list(ast.walk(ast.parse(path.read_text(encoding="utf-8"))))


def own_methods():
    return {
        item.name
        for path in files() for node in nodes(path) if isinstance(node, ast.ClassDef)
        for item in node.body if isinstance(item, ast.FunctionDef)
    }


class Files(unittest.TestCase):
    def test_plain_python_files_alone(self):
        names = [path.name for path in files()]
        self.assertIn("__init__.py", names)
        self.assertIn("coins.py", names)
        for name in names:
            self.assertRegex(name, r"^(__init__|[a-z][a-z0-9_]*)\.py$")

    def test_signs_and_sizes(self):
        for path in files():
            text = path.read_text(encoding="utf-8")
            self.assertRegex(text, r"\A[\n -~]*\n\Z", path)
            rows = text.split("\n")
            self.assertLessEqual(len(rows), 400, path)
            self.assertLessEqual(max(len(line) for line in rows), 120, path)

    def test_words_that_stand_nowhere(self):
        for path in files():
            self.assertIsNone(WORDS.search(path.read_text(encoding="utf-8")), path)


class Code(unittest.TestCase):
    def test_statements_and_expressions(self):
        for path in files():
            for node in nodes(path):
                self.assertIsInstance(node, STATEMENTS + EXPRESSIONS, path)
                self.assertNotIsInstance(node, NOT_USED, path)
                if isinstance(node, ast.Assign):
                    self.assertEqual(len(node.targets), 1)
                    self.assertNotIsInstance(node.targets[0], ast.Tuple)
                if isinstance(node, (ast.For, ast.While)):
                    self.assertEqual(node.orelse, [])

    def test_functions(self):
        for path in files():
            for node in nodes(path):
                if isinstance(node, ast.FunctionDef):
                    self.assertLessEqual(node.end_lineno - node.lineno + 1, 40, node.name)
                    self.assertEqual(node.decorator_list, [])
                if isinstance(node, ast.arguments):
                    self.assertEqual((node.vararg, node.kwarg, node.kwonlyargs, node.posonlyargs), (None, None, [], []))

    def test_names(self):
        for path in files():
            for node in nodes(path):
                for field in ("id", "attr", "arg", "name"):
                    name = getattr(node, field, None)
                    if isinstance(name, str) and name != "__init__":
                        self.assertRegex(name, NAME, path)
                if isinstance(node, ast.Name) and hasattr(builtins, node.id):
                    self.assertIn(node.id, BUILT_IN, path)
                    self.assertIsInstance(node.ctx, ast.Load, path)
                if isinstance(node, ast.arg):
                    self.assertFalse(hasattr(builtins, node.arg), node.arg)

    def test_methods(self):
        allowed = METHODS | own_methods()
        for path in files():
            for node in nodes(path):
                if isinstance(node, ast.Call) and isinstance(node.func, ast.Attribute):
                    self.assertIn(node.func.attr, allowed, path)

    def test_methods_and_values_of_objects(self):
        stored = {
            node.attr
            for path in files() for node in nodes(path)
            if isinstance(node, ast.Attribute) and isinstance(node.ctx, ast.Store)
        }
        pythons_own = {name for kind in (str, int, list, tuple, dict, set, bytes) for name in dir(kind)} - {"__init__"}
        self.assertEqual(stored & own_methods(), set())
        self.assertEqual((stored | own_methods()) & pythons_own, set())

    def test_each_name_once_at_the_top(self):
        for path in files():
            bound = []
            for node in ast.parse(path.read_text(encoding="utf-8")).body:
                if isinstance(node, ast.Assign):
                    bound.append(node.targets[0].id)
                elif isinstance(node, (ast.FunctionDef, ast.ClassDef)):
                    bound.append(node.name)
                elif isinstance(node, (ast.Import, ast.ImportFrom)):
                    self.fail(f"{path} imports")
            self.assertEqual(len(bound), len(set(bound)), path)


if __name__ == "__main__":
    unittest.main()
