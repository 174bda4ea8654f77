"""The package keeps to the small part of Python that it may use.

Only what can be read off the files mechanically is tested here: the rules that
name statements, words, names, sizes and signs.
"""

import ast
import builtins
import pathlib
import re
import unittest

ROOT = pathlib.Path(__file__).resolve().parent.parent
PACKAGE = ROOT / "neighbourpairs"
INTERFACE = {
    "min_moves": ["vertex_count", "target", "count", "edges", "pebbles"],
    "max_pebbles_at": ["vertex_count", "target", "edges", "pebbles"],
    "rubbling_number": ["vertex_count", "target", "edges"],
    "savings": ["vertex_count", "target", "edges"],
    "optimal_configuration": ["vertex_count", "edges"],
    "apply_moves": ["vertex_count", "edges", "pebbles", "moves"],
}

# L6 and L7: the parts of a tree that may stand in a file.
ALLOWED_PARTS = """
    Module FunctionDef ClassDef arguments arg ImportFrom alias Expr Assign AugAssign AnnAssign
    If While For Return Break Continue Pass Raise Try ExceptHandler Name Load Store Constant
    List Tuple Dict Set BinOp Add Sub Mult FloorDiv Mod Pow BitAnd BitOr BitXor LShift RShift
    UnaryOp USub UAdd Not Invert Compare Eq NotEq Lt LtE Gt GtE In NotIn Is IsNot BoolOp And Or
    IfExp Call keyword Attribute Subscript Slice ListComp comprehension JoinedStr FormattedValue
    Lambda
""".split()

# L8: Python's own names that may be used.
ALLOWED_NAMES = """
    len range enumerate zip min max sum abs sorted reversed int str bool list tuple dict set
    frozenset isinstance ord repr any all divmod Exception ValueError TypeError KeyError
    IndexError LookupError ZeroDivisionError ArithmeticError OverflowError RuntimeError
    NotImplementedError AttributeError StopIteration
""".split()

# L25: methods of Python's own values.
ALLOWED_METHODS = """
    append clear copy count endswith extend find get index insert isalnum isalpha isdigit islower
    isspace isupper items join keys ljust lower lstrip partition pop remove replace reverse rfind
    rjust rpartition rsplit rstrip setdefault split splitlines startswith strip update upper
    values zfill bit_length
""".split()

# L17: words that stand nowhere in a file.
FORBIDDEN_WORDS = re.compile(
    r"\b(type|typing|typing_extensions|enum|Enum|IntEnum|StrEnum|Flag|IntFlag|Generic|Protocol"
    r"|ABC|ABCMeta|namedtuple|NamedTuple|TypedDict|TYPE_CHECKING|abstractmethod)\b"
    r"|dataclass|overload|contextmanager"
)


def package_files():
    return [path for path in sorted(PACKAGE.rglob("*")) if "__pycache__" not in path.parts]


def trees():
    return [(path.name, ast.parse(path.read_text("utf-8"))) for path in package_files()]


def parts(wanted):
    """Every part of that kind in the package, with the place where it stands."""
    return [
        (f"{name}:{part.lineno}", part)
        for name, tree in trees()
        for part in ast.walk(tree)
        if isinstance(part, wanted)
    ]


class Files(unittest.TestCase):
    def test_names(self):
        names = [path.relative_to(PACKAGE).as_posix() for path in package_files()]
        self.assertIn("__init__.py", names)
        self.assertIn("rubbling.py", names)
        for name in names:
            self.assertRegex(name, r"^(__init__|[a-z][a-z0-9_]*)\.py$")

    def test_sizes_and_signs(self):
        for path in package_files():
            text = path.read_bytes().decode("utf-8")
            self.assertNotRegex(text, r"[^ -~\n]", path.name)
            self.assertNotRegex(text, FORBIDDEN_WORDS, path.name)
            rows = text.split("\n")
            self.assertLessEqual(len(rows), 399, path.name)
            for row in rows:
                self.assertLessEqual(len(row), 120, (path.name, row))

    def test_sizes_of_functions(self):
        for place, function in parts(ast.FunctionDef):
            self.assertLessEqual(function.end_lineno - function.lineno + 1, 40, place)


class Parts(unittest.TestCase):
    def test_statements_and_expressions(self):
        for name, tree in trees():
            for part in ast.walk(tree):
                self.assertIn(part.__class__.__name__, ALLOWED_PARTS, name)

    def test_top_of_a_file(self):
        allowed = (ast.Expr, ast.ImportFrom, ast.Assign, ast.FunctionDef, ast.ClassDef)
        for name, tree in trees():
            self.assertIsNotNone(ast.get_docstring(tree), name)
            for place, statement in enumerate(tree.body):
                self.assertIsInstance(statement, allowed, name)
                if isinstance(statement, ast.Expr):
                    self.assertEqual(place, 0, name)

    def test_forms(self):
        for place, statement in parts(ast.Assign):
            self.assertEqual(len(statement.targets), 1, place)
        for place, loop in parts((ast.For, ast.While)):
            self.assertEqual(loop.orelse, [], place)
        for place, statement in parts(ast.Try):
            self.assertEqual(statement.finalbody, [], place)
        for place, function in parts((ast.FunctionDef, ast.ClassDef)):
            self.assertEqual(function.decorator_list, [], place)
        for place, listing in parts(ast.ListComp):
            self.assertEqual(len(listing.generators), 1, place)
            self.assertLessEqual(len(listing.generators[0].ifs), 1, place)
        for place, constant in parts(ast.Constant):
            allowed = (bool, int, str, None.__class__)
            self.assertIsInstance(constant.value, allowed, place)

    def test_imports_are_the_package_s_own(self):
        for place, statement in parts(ast.ImportFrom):
            self.assertEqual(statement.level, 0, place)
            if statement.module != "__future__":
                self.assertRegex(statement.module, r"^neighbourpairs\.[a-z]", place)

    def test_names(self):
        for place, part in parts(ast.Name):
            self.assertRegex(part.id, r"^[A-Za-z][A-Za-z0-9_]*$", place)
            if hasattr(builtins, part.id):
                self.assertIsInstance(part.ctx, ast.Load, (place, part.id))
                self.assertIn(part.id, ALLOWED_NAMES, place)
        for place, part in parts((ast.arg, ast.FunctionDef, ast.ClassDef)):
            name = part.arg if isinstance(part, ast.arg) else part.name
            self.assertFalse(hasattr(builtins, name), (place, name))

    def test_methods(self):
        for place, call in parts(ast.Call):
            if isinstance(call.func, ast.Attribute):
                self.assertIn(call.func.attr, ALLOWED_METHODS, place)


class Interface(unittest.TestCase):
    def test_functions_stand_as_the_document_tells(self):
        tree = dict(trees())["rubbling.py"]
        functions = {part.name: part for part in tree.body if isinstance(part, ast.FunctionDef)}
        for name, parameters in INTERFACE.items():
            self.assertIn(name, functions)
            given = functions[name].args
            self.assertEqual([parameter.arg for parameter in given.args], parameters)
            self.assertEqual(given.defaults + given.kwonlyargs + given.posonlyargs, [])
            self.assertIsNone(given.vararg)
            self.assertIsNone(given.kwarg)


if __name__ == "__main__":
    unittest.main()
