"""What of LANGUAGE.md can be seen in the package's files, and that it imports and prints nothing."""

import ast
import builtins
import pathlib
import re
import unittest

PACKAGE = pathlib.Path(__file__).resolve().parent.parent / "planedrawings"

# No import stands among these: the document says that the package imports nothing.
NODES = (
    ast.Module, ast.FunctionDef, ast.ClassDef, ast.Lambda, ast.arguments, ast.arg, ast.Expr, ast.Assign, ast.AugAssign,
    ast.If, ast.While, ast.For, ast.Return, ast.Break, ast.Continue, ast.Pass, ast.Raise, ast.Try, ast.ExceptHandler,
    ast.Constant, ast.JoinedStr, ast.FormattedValue, ast.List, ast.Tuple, ast.Dict, ast.Name, ast.Call, ast.keyword,
    ast.Attribute, ast.Subscript, ast.Slice, ast.ListComp, ast.comprehension, ast.BinOp, ast.UnaryOp, ast.BoolOp,
    ast.Compare, ast.IfExp, ast.expr_context, ast.boolop, ast.operator, ast.unaryop, ast.cmpop,
)
OWN_NAMES = (
    "len range enumerate zip min max sum abs sorted reversed int str bool list tuple dict set frozenset isinstance ord "
    "repr any all divmod Exception ValueError TypeError KeyError IndexError LookupError ZeroDivisionError "
    "ArithmeticError OverflowError RuntimeError NotImplementedError AttributeError StopIteration"
).split()
METHODS = (
    "append clear copy count endswith extend find get index insert isalnum isalpha isdigit islower isspace isupper "
    "items join keys ljust lower lstrip partition pop remove replace reverse rfind rjust rpartition rsplit rstrip "
    "setdefault split splitlines startswith strip update upper values zfill bit_length"
).split()
WORDS = (
    "type typing typing_extensions enum Enum IntEnum StrEnum Flag IntFlag Generic Protocol ABC ABCMeta namedtuple "
    "NamedTuple TypedDict TYPE_CHECKING abstractmethod"
).split()


def sources():
    return sorted(PACKAGE.glob("*.py"))


def nodes_of(path):
    return list(ast.walk(ast.parse(path.read_text(encoding="utf-8"))))


def reached_from(name, calls):
    reached = set()
    waiting = [name]
    while waiting:
        for other in calls.get(waiting.pop(), []):
            if other not in reached:
                reached.add(other)
                waiting.append(other)
    return reached


class TestLanguage(unittest.TestCase):
    def test_files(self):
        found = [path.name for path in PACKAGE.iterdir() if path.name != "__pycache__"]
        self.assertEqual(sorted(found), [path.name for path in sources()])
        self.assertIn("__init__.py", found)
        self.assertIn("desk.py", found)

    def test_signs_and_sizes(self):
        for path in sources():
            text = path.read_bytes().decode("utf-8")
            self.assertRegex(text, r"\A[ -~\n]*\Z")
            self.assertLessEqual(len(text.splitlines()), 400)
            self.assertLessEqual(max(len(line) for line in text.splitlines()), 120)
            for word in re.findall(r"\w+", text):
                self.assertNotIn(word, WORDS)

    def test_only_the_forms_that_are_allowed(self):
        for path in sources():
            for node in nodes_of(path):
                self.assertIsInstance(node, NODES, path.name)

    def test_no_float_and_no_division(self):
        for path in sources():
            for node in nodes_of(path):
                self.assertNotIsInstance(node, (ast.Div, ast.MatMult, ast.Is, ast.IsNot))
                if isinstance(node, ast.Constant):
                    self.assertIn(type(node.value), (int, str, bool, type(None)))

    def test_functions(self):
        for path in sources():
            for node in nodes_of(path):
                if isinstance(node, ast.FunctionDef):
                    self.assertLessEqual(node.end_lineno - node.lineno + 1, 40, node.name)
                    self.assertEqual(node.decorator_list, [])

    def test_names(self):
        for path in sources():
            for node in nodes_of(path):
                if isinstance(node, ast.Attribute):
                    self.assertIn(node.attr, METHODS)
                if isinstance(node, ast.Name) and hasattr(builtins, node.id):
                    self.assertIn(node.id, OWN_NAMES)
                    self.assertIsInstance(node.ctx, ast.Load)
                if isinstance(node, ast.arg):
                    self.assertFalse(hasattr(builtins, node.arg), node.arg)
                if isinstance(node, (ast.Name, ast.arg)):
                    name = node.id if isinstance(node, ast.Name) else node.arg
                    self.assertRegex(name, r"\A[A-Za-z][A-Za-z0-9_]*\Z")

    def test_no_function_calls_itself(self):
        calls = {}
        for path in sources():
            for node in nodes_of(path):
                if isinstance(node, ast.FunctionDef):
                    called = [part.func for part in ast.walk(node) if isinstance(part, ast.Call)]
                    calls[node.name] = [part.id for part in called if isinstance(part, ast.Name)]
        for name in calls:
            self.assertNotIn(name, reached_from(name, calls))


if __name__ == "__main__":
    unittest.main()
