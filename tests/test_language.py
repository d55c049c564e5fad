"""The rules of form that can be seen from the files alone: files, imports, signs, sizes, forms and names.

No rule here is a whole one: a file that passes has kept to what can be counted, not yet to every rule.
"""

import ast
import builtins
import pathlib
import re
import unittest

PACKAGE = pathlib.Path(__file__).resolve().parent.parent / "callorder"
FILES = sorted(path for path in PACKAGE.rglob("*") if "__pycache__" not in path.parts)

FORMS = """
    Module FunctionDef Lambda ClassDef arguments arg Return Assign AugAssign For While If Raise Try ExceptHandler
    Break Continue Pass Expr ImportFrom alias BoolOp And Or BinOp Add Sub Mult FloorDiv Mod Pow LShift RShift BitOr
    BitXor BitAnd UnaryOp Not USub UAdd Invert IfExp Dict Set ListComp comprehension Compare Eq NotEq Lt LtE Gt GtE
    Is IsNot In NotIn Call keyword JoinedStr FormattedValue Constant Attribute Subscript Slice Name List Tuple Load
    Store
""".split()

OWN_NAMES = """
    len range enumerate zip min max sum abs sorted reversed int str bool list tuple dict set frozenset isinstance ord
    repr any all divmod ValueError KeyError IndexError LookupError ZeroDivisionError ArithmeticError OverflowError
    RuntimeError NotImplementedError StopIteration
""".split()

METHODS = """
    append clear copy count endswith extend find get index insert isalnum isalpha isdigit islower isspace isupper
    items join keys ljust lower lstrip partition pop remove replace reverse rfind rjust rpartition rsplit rstrip
    setdefault split splitlines startswith strip update upper values zfill bit_length
""".split()

PYTHON_KINDS = (str, int, list, tuple, dict, set, bytes, ValueError)

WALKED = ("zip", "enumerate", "reversed", "range", "items", "keys", "values")
WALKERS = ("list", "tuple", "dict", "sorted", "sum", "any", "all", "enumerate", "zip", "min", "max")

NO_WORDS = re.compile(
    r"\b(type|typing|typing_extensions|enum|Enum|IntEnum|StrEnum|Flag|IntFlag|Generic|Protocol|ABC|ABCMeta"
    r"|namedtuple|NamedTuple|TypedDict|TYPE_CHECKING|abstractmethod)\b|dataclass|overload|contextmanager"
)


def bound_names(node):
    if isinstance(node, (ast.FunctionDef, ast.ClassDef)):
        return [node.name]
    if isinstance(node, ast.arg):
        return [node.arg]
    if isinstance(node, ast.alias):
        return [node.asname or node.name]
    if isinstance(node, ast.Name) and isinstance(node.ctx, ast.Store):
        return [node.id]
    return []


def called_name(node):
    if not isinstance(node, ast.Call):
        return None
    return node.func.attr if isinstance(node.func, ast.Attribute) else getattr(node.func, "id", None)


def walked_at_once(node):
    if isinstance(node, (ast.For, ast.comprehension)):
        return [node.iter]
    return node.args[:1] if called_name(node) in WALKERS else []


class TestLanguage(unittest.TestCase):
    def each_node(self):
        for path in FILES:
            for node in ast.walk(ast.parse(path.read_text("utf-8"))):
                yield f"{path.name}:{getattr(node, 'lineno', 0)}", node

    def test_files(self):
        self.assertTrue((PACKAGE / "__init__.py").is_file())
        for path in FILES:
            self.assertRegex(path.name, r"^(__init__|[a-z][a-z0-9_]*)\.py$")

    def test_signs_and_sizes(self):
        for path in FILES:
            text = path.read_bytes().decode("utf-8")
            self.assertRegex(text, r"\A[ -~\n]*\Z", path.name)
            self.assertIsNone(NO_WORDS.search(text), path.name)
            self.assertLessEqual(len(text.splitlines()), 400, path.name)
            for line in text.splitlines():
                self.assertLessEqual(len(line), 120, path.name)

    def test_functions_are_short(self):
        for place, node in self.each_node():
            if isinstance(node, ast.FunctionDef):
                self.assertLessEqual(node.end_lineno - node.lineno + 1, 40, place)
                self.assertEqual(node.decorator_list, [], place)

    def test_forms(self):
        for place, node in self.each_node():
            self.assertIn(type(node).__name__, FORMS, place)
            if isinstance(node, ast.Constant):
                self.assertIn(type(node.value), (int, str, bool, type(None)), place)

    def test_imports_are_of_the_package_alone(self):
        for place, node in self.each_node():
            if isinstance(node, ast.ImportFrom):
                self.assertEqual(node.level, 0, place)
                self.assertRegex(node.module, r"^callorder\.[a-z0-9_]+$", place)

    def test_names(self):
        for place, node in self.each_node():
            for name in bound_names(node):
                self.assertRegex(name, r"^([A-Za-z][A-Za-z0-9_]*|__(init|eq|repr|str|len)__)$", place)
                self.assertFalse(hasattr(builtins, name), f"{place} {name}")
            if isinstance(node, ast.Name) and hasattr(builtins, node.id):
                self.assertIn(node.id, OWN_NAMES, place)
            if isinstance(node, ast.Attribute) and any(hasattr(kind, node.attr) for kind in PYTHON_KINDS):
                self.assertIn(node.attr, METHODS, place)

    def test_walked_at_once(self):
        for path in FILES:
            nodes = list(ast.walk(ast.parse(path.read_text("utf-8"))))
            allowed = [walked for node in nodes for walked in walked_at_once(node)]
            for node in nodes:
                if called_name(node) in WALKED:
                    self.assertIn(node, allowed, f"{path.name}:{node.lineno}")
                self.assertNotIn(called_name(node), ("set", "frozenset"), path.name)


if __name__ == "__main__":
    unittest.main()
