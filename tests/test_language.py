"""That the package keeps to the part of Python it is written in, as far as a test sees it; L.. are that part's rules."""

import ast
import builtins
import io
import pathlib
import re
import tokenize
import unittest

PACKAGE = pathlib.Path(__file__).resolve().parent.parent / "cutparts"

NODES = """
    Module FunctionDef ClassDef arguments arg Return Assign AugAssign For While If Raise Try ExceptHandler ImportFrom
    alias Expr Pass Break Continue BoolOp And Or BinOp Add Sub Mult FloorDiv Mod Pow LShift RShift BitOr BitXor BitAnd
    UnaryOp Invert Not UAdd USub Lambda IfExp Dict ListComp comprehension Compare Eq NotEq Lt LtE Gt GtE Is IsNot In
    NotIn Call keyword JoinedStr FormattedValue Constant Attribute Subscript Slice Name Load Store List Tuple
""".split()

OWN_NAMES = """
    len range enumerate zip min max sum abs sorted reversed int str bool list tuple dict set frozenset isinstance ord
    repr any all divmod Exception ValueError TypeError KeyError IndexError LookupError ZeroDivisionError
    ArithmeticError OverflowError RuntimeError NotImplementedError AttributeError StopIteration
""".split()

METHODS = """
    append clear copy count endswith extend find get index insert isalnum isalpha isdigit islower isspace isupper items
    join keys ljust lower lstrip partition pop remove replace reverse rfind rjust rpartition rsplit rstrip setdefault
    split splitlines startswith strip update upper values zfill bit_length
""".split()

WORDS = """
    type typing typing_extensions enum Enum IntEnum StrEnum Flag IntFlag Generic Protocol ABC ABCMeta namedtuple
    NamedTuple TypedDict TYPE_CHECKING abstractmethod
""".split()

UNUSED = """
    attrgetter breakpoint builtins compile copyright credits delattr dir eval exec exit gc getattr globals hasattr help
    id importlib license locals methodcaller os quit setattr super type vars sys register mro elements open input
    version_info with_traceback add_note
""".split()


def files():
    return sorted(path for path in PACKAGE.rglob("*") if "__pycache__" not in path.parts)


def trees():
    return [(path.name, ast.parse(path.read_text("utf-8"))) for path in files()]


def bound_names(tree):
    for node in ast.walk(tree):
        if isinstance(node, ast.Name) and isinstance(node.ctx, ast.Store):
            yield node.id
        elif isinstance(node, ast.arg):
            yield node.arg
        elif isinstance(node, (ast.FunctionDef, ast.ClassDef)):
            yield node.name
        elif isinstance(node, ast.Attribute) and isinstance(node.ctx, ast.Store):
            yield node.attr


class Files(unittest.TestCase):
    def test_plain_files(self):
        self.assertIn("__init__.py", [path.name for path in files()])
        for path in files():
            self.assertTrue(path.is_file(), "L1: " + path.name)
            self.assertRegex(path.name, r"^(__init__|[a-z][a-z0-9_]*)\.py$", "L1, L14")

    def test_rows(self):
        for path in files():
            rows = path.read_text("utf-8").split("\n")
            self.assertLessEqual(len(rows), 400, "L10: " + path.name)
            for row in rows:
                self.assertRegex(row, r"^[ -~]{0,120}$", "L10, L14: " + path.name)

    def test_words(self):
        for path in files():
            found = re.findall(r"[A-Za-z0-9_]+", path.read_text("utf-8"))
            self.assertEqual([word for word in found if word in WORDS], [], "L17: " + path.name)

    def test_escapes_and_signs_in_texts(self):
        for path in files():
            for token in tokenize.generate_tokens(io.StringIO(path.read_text("utf-8")).readline):
                if token.type == tokenize.STRING:
                    self.assertNotIn("%", token.string, "L27")
                    self.assertEqual(re.sub(r"\\[nt\\'\"]", "", token.string).count("\\"), 0, "L27")


class Code(unittest.TestCase):
    def test_statements_and_expressions(self):
        for name, tree in trees():
            for node in ast.walk(tree):
                self.assertIn(type(node).__name__, NODES, "L6, L7: " + name)
                if isinstance(node, ast.Constant):
                    self.assertIn(type(node.value), (int, str, bool, type(None)), "L7: " + name)
                if isinstance(node, ast.Assign):
                    self.assertEqual(len(node.targets), 1, "L6: " + name)
                    self.assertNotIsInstance(node.targets[0], (ast.Tuple, ast.List), "L6: " + name)
                if isinstance(node, (ast.For, ast.While)):
                    self.assertEqual(node.orelse, [], "L6: " + name)
                if isinstance(node, ast.ListComp):
                    self.assertEqual(len(node.generators), 1, "L7: " + name)

    def test_imports(self):
        for name, tree in trees():
            for node in ast.walk(tree):
                if isinstance(node, ast.ImportFrom):
                    self.assertEqual(node.level, 0, "L2: " + name)
                    self.assertRegex(node.module, r"^cutparts\.[a-z_]+$", "L2: " + name)
                    self.assertNotIn("*", [alias.name for alias in node.names], "L2: " + name)

    def test_defs(self):
        for name, tree in trees():
            for node in ast.walk(tree):
                if isinstance(node, (ast.FunctionDef, ast.ClassDef)):
                    self.assertEqual(node.decorator_list, [], "L4, L5: " + name)
                if isinstance(node, ast.FunctionDef):
                    self.assertLessEqual(node.end_lineno - node.lineno + 1, 40, "L10: " + node.name)
                    given = node.args
                    self.assertEqual((given.vararg, given.kwarg, given.kwonlyargs, given.posonlyargs), (None, None, [], []))

    def test_names(self):
        python = set(dir(builtins))
        for name, tree in trees():
            for bound in bound_names(tree):
                self.assertNotIn(bound, python, "L8, L15: " + name)
                self.assertNotIn(bound, UNUSED, "L17: " + name)
                self.assertTrue(bound == "__init__" or re.fullmatch("[A-Za-z][A-Za-z0-9_]*", bound), "L12: " + bound)
            for node in ast.walk(tree):
                if isinstance(node, ast.Name) and node.id in python:
                    self.assertIn(node.id, OWN_NAMES, "L8, L27: " + name)

    def test_methods(self):
        own = {bound for _, tree in trees() for bound in bound_names(tree)}
        for name, tree in trees():
            for node in ast.walk(tree):
                if isinstance(node, ast.Call) and isinstance(node.func, ast.Attribute):
                    self.assertTrue(node.func.attr in METHODS or node.func.attr in own, "L25: " + node.func.attr)

    def test_is_beside_none_alone(self):
        for name, tree in trees():
            for node in ast.walk(tree):
                if isinstance(node, ast.Compare) and isinstance(node.ops[0], (ast.Is, ast.IsNot)):
                    self.assertIn(ast.unparse(node.comparators[0]), ("None", "True", "False"), "L20: " + name)


if __name__ == "__main__":
    unittest.main()
