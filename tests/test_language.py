"""The form of the package's own files: the rules that can be seen from the text."""

import ast
import pathlib
import re
import unittest

FOLDER = pathlib.Path(__file__).resolve().parent.parent / "ringfiguresdesk"

NODES = (
    "Module Expr Assign AugAssign If While For Return Break Continue Pass Raise Try ExceptHandler FunctionDef "
    "ClassDef arguments arg ImportFrom alias Constant List Tuple Dict BinOp UnaryOp BoolOp Compare IfExp Call "
    "Attribute Subscript Slice ListComp comprehension Lambda Name Load Store keyword "
    "Add Sub Mult FloorDiv Mod Pow BitAnd BitOr BitXor LShift RShift Invert USub Not And Or "
    "Eq NotEq Lt LtE Gt GtE Is IsNot In NotIn JoinedStr FormattedValue"
).split()
BUILTINS = (
    "len range enumerate zip min max sum abs sorted reversed int str bool list tuple dict set frozenset isinstance "
    "ord repr any all divmod Exception ValueError TypeError KeyError IndexError LookupError ZeroDivisionError "
    "ArithmeticError OverflowError RuntimeError NotImplementedError AttributeError StopIteration"
).split()
METHODS = (
    "append clear copy count endswith extend find get index insert isalnum isalpha isdigit islower isspace isupper "
    "items join keys ljust lower lstrip partition pop remove replace reverse rfind rjust rpartition rsplit rstrip "
    "setdefault split splitlines startswith strip update upper values zfill bit_length"
).split()
WORDS = (
    "type typing typing_extensions enum Enum IntEnum StrEnum Flag IntFlag Generic Protocol ABC ABCMeta namedtuple "
    "NamedTuple TypedDict TYPE_CHECKING abstractmethod"
).split()


def files():
    return sorted(path for path in FOLDER.iterdir() if path.name != "__pycache__")


def trees():
    return [(path.name, ast.parse(path.read_text("ascii"))) for path in files()]


def bound_names(tree):
    """All names that a file binds anywhere."""
    found = set()
    for node in ast.walk(tree):
        if isinstance(node, (ast.FunctionDef, ast.ClassDef)):
            found.add(node.name)
        if isinstance(node, ast.arg):
            found.add(node.arg)
        if isinstance(node, ast.Name) and isinstance(node.ctx, ast.Store):
            found.add(node.id)
        if isinstance(node, ast.ImportFrom):
            found |= {alias.asname or alias.name for alias in node.names}
    return found


class Files(unittest.TestCase):
    def test_names_and_signs(self):
        names = [path.name for path in files()]
        self.assertIn("__init__.py", names)
        self.assertIn("plane.py", names)
        for path in files():
            self.assertTrue(re.fullmatch(r"__init__\.py|[a-z][a-z0-9_]*\.py", path.name), path.name)
            self.assertFalse(re.search(rb"[^ -~\n]", path.read_bytes()), path.name)

    def test_sizes(self):
        for path in files():
            lines = path.read_text("ascii").splitlines()
            self.assertLessEqual(len(lines), 400, path.name)
            self.assertLessEqual(max(len(line) for line in lines), 120, path.name)
        for name, tree in trees():
            for node in ast.walk(tree):
                if isinstance(node, ast.FunctionDef):
                    self.assertLessEqual(node.end_lineno - node.lineno + 1, 40, node.name)

    def test_words(self):
        for path in files():
            words = re.findall(r"\w+", path.read_text("ascii"))
            self.assertFalse(set(words) & set(WORDS), path.name)


class Forms(unittest.TestCase):
    def test_statements_and_expressions(self):
        for name, tree in trees():
            for node in ast.walk(tree):
                self.assertIn(node.__class__.__name__, NODES, (name, getattr(node, "lineno", 0)))
                if isinstance(node, ast.Assign):
                    self.assertEqual(len(node.targets), 1)
                    self.assertNotIsInstance(node.targets[0], (ast.Tuple, ast.List))
                if isinstance(node, (ast.For, ast.While)):
                    self.assertEqual(node.orelse, [])
                if isinstance(node, ast.FunctionDef):
                    self.assertEqual(node.decorator_list, [])
                if isinstance(node, ast.ListComp):
                    self.assertEqual(len(node.generators), 1)
                    self.assertLessEqual(len(node.generators[0].ifs), 1)
                if isinstance(node, ast.Constant):
                    self.assertIn(node.value.__class__.__name__, ("int", "str", "bool", "NoneType"))

    def test_imports_are_the_packages_own(self):
        for name, tree in trees():
            for node in ast.walk(tree):
                if isinstance(node, ast.ImportFrom):
                    self.assertTrue(node.module.startswith("ringfiguresdesk."), name)
                    self.assertEqual(node.level, 0)
                    self.assertIn(node, tree.body)

    def test_names(self):
        for name, tree in trees():
            bound = bound_names(tree)
            self.assertFalse(bound & set(dir(__builtins__) if not isinstance(__builtins__, dict) else __builtins__))
            for word in bound - {"__init__"}:
                self.assertTrue(re.fullmatch(r"[A-Za-z][A-Za-z0-9_]*", word), word)
            for node in ast.walk(tree):
                if isinstance(node, ast.Name):
                    self.assertIn(node.id, bound | set(BUILTINS), name)

    def test_methods(self):
        own = set()
        values = set()
        for name, tree in trees():
            for node in ast.walk(tree):
                if isinstance(node, ast.ClassDef):
                    own |= {method.name for method in node.body if isinstance(method, ast.FunctionDef)}
                if isinstance(node, ast.Attribute) and isinstance(node.ctx, ast.Store):
                    values.add(node.attr)
        self.assertFalse(own & values)
        for name, tree in trees():
            for node in ast.walk(tree):
                if isinstance(node, ast.Attribute):
                    self.assertIn(node.attr, own | values | set(METHODS), name)


if __name__ == "__main__":
    unittest.main()
