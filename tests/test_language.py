"""The rules for the package's own files that can be seen file by file."""

import ast
import builtins
import pathlib
import re
import unittest

PACKAGE = pathlib.Path(__file__).resolve().parent.parent / "readaloud"
FILES = sorted(path for path in PACKAGE.rglob("*") if path.is_file() and path.suffix != ".pyc")

NODES = set("""
Module FunctionDef ClassDef Return Assign AugAssign For While If Raise Try ExceptHandler ImportFrom alias
Expr Pass Break Continue BoolOp And Or BinOp Add Sub Mult FloorDiv Mod Pow LShift RShift BitOr BitXor BitAnd
UnaryOp Invert Not USub UAdd Lambda IfExp Dict ListComp comprehension Compare Eq NotEq Lt LtE Gt GtE Is IsNot In NotIn
Call keyword JoinedStr FormattedValue Constant Attribute Subscript Slice Name List Tuple Load Store arguments arg
""".split())

NAMES = set("""
len range enumerate zip min max sum abs sorted reversed int str bool list tuple dict set frozenset isinstance ord
repr any all divmod Exception ValueError TypeError KeyError IndexError LookupError ZeroDivisionError ArithmeticError
OverflowError RuntimeError NotImplementedError AttributeError StopIteration
""".split())

WORDS = set("""
type typing typing_extensions enum Enum IntEnum StrEnum Flag IntFlag Generic Protocol ABC ABCMeta namedtuple
NamedTuple TypedDict TYPE_CHECKING abstractmethod
""".split())

METHODS = set("""
append clear copy count endswith extend find get index insert isalnum isalpha isdigit islower isspace isupper items
join keys ljust lower lstrip partition pop remove replace reverse rfind rjust rpartition rsplit rstrip setdefault
split splitlines startswith strip update upper values zfill bit_length
""".split())


def nodes_of(path, *kinds):
    return [node for node in ast.walk(ast.parse(path.read_text())) if isinstance(node, kinds)]


def own_methods():
    return {node.name for path in FILES for kind in nodes_of(path, ast.ClassDef)
            for node in kind.body if isinstance(node, ast.FunctionDef)}


class LanguageTest(unittest.TestCase):
    def test_files(self):
        self.assertIn(PACKAGE / "__init__.py", FILES)
        self.assertIn(PACKAGE / "desk.py", FILES)
        for path in FILES:
            self.assertRegex(path.name, r"^(__init__|[a-z][a-z0-9_]*)\.py$")

    def test_signs_and_sizes(self):
        for path in FILES:
            text = path.read_bytes().decode("ascii")
            self.assertRegex(text, r"\A[ -~\n]*\Z")
            self.assertLessEqual(len(text.splitlines()), 400, path)
            self.assertLessEqual(max(len(line) for line in text.splitlines()), 120, path)
            for node in nodes_of(path, ast.FunctionDef):
                self.assertLessEqual(node.end_lineno - node.lineno + 1, 40, node.name)

    def test_words(self):
        for path in FILES:
            text = path.read_text()
            self.assertEqual(set(re.findall(r"\w+", text)) & WORDS, set(), path)
            self.assertNotRegex(text, "dataclass|overload|contextmanager")

    def test_forms(self):
        for path in FILES:
            used = {type(node).__name__ for node in nodes_of(path, ast.AST)}
            self.assertEqual(used - NODES, set(), path)
            for node in nodes_of(path, ast.Assign):
                self.assertEqual(len(node.targets), 1, (path, node.lineno))
            for node in nodes_of(path, ast.For, ast.While):
                self.assertEqual(node.orelse, [], (path, node.lineno))
            for node in nodes_of(path, ast.FunctionDef, ast.ClassDef):
                self.assertEqual(node.decorator_list, [], (path, node.lineno))
            for node in nodes_of(path, ast.Expr):
                # The file's docstring is the one value that stands by itself.
                self.assertTrue(isinstance(node.value, ast.Call) or node.lineno == 1, (path, node.lineno))
            for node in nodes_of(path, ast.Constant):
                self.assertIn(type(node.value), (int, str, bool, type(None)), (path, node.lineno))

    def test_imports(self):
        for path in FILES:
            for node in nodes_of(path, ast.ImportFrom):
                self.assertRegex(node.module, r"^readaloud\.[a-z0-9_]+$")
                self.assertEqual(node.level, 0)
                self.assertNotIn("*", [name.name for name in node.names])

    def test_names(self):
        for path in FILES:
            for node in nodes_of(path, ast.Name):
                self.assertFalse(node.id.startswith("_"), (path, node.lineno))
                if hasattr(builtins, node.id):
                    self.assertIn(node.id, NAMES, (path, node.lineno))
                    self.assertIsInstance(node.ctx, ast.Load, (path, node.lineno))
            for node in nodes_of(path, ast.arg):
                self.assertFalse(node.arg.startswith("_") or hasattr(builtins, node.arg), (path, node.lineno))

    def test_methods(self):
        own = own_methods()
        for path in FILES:
            for node in nodes_of(path, ast.Call):
                if isinstance(node.func, ast.Attribute):
                    self.assertIn(node.func.attr, METHODS | own, (path, node.lineno))
            for node in nodes_of(path, ast.Attribute):
                if isinstance(node.ctx, ast.Store):
                    self.assertNotIn(node.attr, own, (path, node.lineno))

    def test_comprehensions_and_lambdas(self):
        for path in FILES:
            for node in nodes_of(path, ast.ListComp):
                self.assertEqual(len(node.generators), 1, (path, node.lineno))
                self.assertLessEqual(len(node.generators[0].ifs), 1, (path, node.lineno))
            lines = [node.lineno for node in nodes_of(path, ast.Lambda)]
            self.assertEqual(len(lines), len(set(lines)), path)

    def test_own_names_of_python_are_called(self):
        for path in FILES:
            called = [node.func for node in nodes_of(path, ast.Call)]
            bases = [base for node in nodes_of(path, ast.ClassDef) for base in node.bases]
            spots = {(node.lineno, node.col_offset) for node in called + bases}
            for node in nodes_of(path, ast.Name):
                if hasattr(builtins, node.id):
                    self.assertIn((node.lineno, node.col_offset), spots, path)

    def test_walked_at_once(self):
        for path in FILES:
            kept = [node.value for node in nodes_of(path, ast.Assign, ast.Return)]
            for node in kept:
                if isinstance(node, ast.Call):
                    name = getattr(node.func, "id", getattr(node.func, "attr", None))
                    self.assertNotIn(name, ("zip", "enumerate", "reversed", "range", "items", "keys", "values", "set"))

    def test_each_name_once(self):
        for path in FILES:
            bound = []
            for node in ast.parse(path.read_text()).body:
                if isinstance(node, (ast.FunctionDef, ast.ClassDef)):
                    bound.append(node.name)
                elif isinstance(node, ast.Assign):
                    bound.append(node.targets[0].id)
                elif isinstance(node, ast.ImportFrom):
                    bound.extend(name.name for name in node.names)
            self.assertEqual(len(bound), len(set(bound)), path)
            imported = {name.name for node in nodes_of(path, ast.ImportFrom) for name in node.names}
            classes = {node.name for node in nodes_of(path, ast.ClassDef)}
            inner = {node.arg for node in nodes_of(path, ast.arg)}
            inner |= {node.id for node in nodes_of(path, ast.Name)
                      if isinstance(node.ctx, ast.Store) and node.col_offset > 0}
            self.assertEqual(inner & (imported | classes), set(), path)

    def test_is_and_texts(self):
        for path in FILES:
            for node in nodes_of(path, ast.Compare):
                for sign, beside in zip(node.ops, node.comparators):
                    if isinstance(sign, (ast.Is, ast.IsNot)):
                        self.assertIn(getattr(beside, "value", beside), (None, True, False), (path, node.lineno))
            for node in nodes_of(path, ast.Constant):
                self.assertNotIn("%", str(node.value), (path, node.lineno))


if __name__ == "__main__":
    unittest.main()
