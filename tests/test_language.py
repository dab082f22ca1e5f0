"""Holds the package's files against those rules of LANGUAGE.md that a walk over their syntax can see."""

import ast
import builtins
import pathlib
import re
import unittest

PACKAGE = pathlib.Path(__file__).resolve().parent.parent / "flaglong"

NODES = set("""
    Module Expr FunctionDef arguments arg Return Assign AugAssign For While If Break Continue Pass Raise Try
    ExceptHandler ClassDef Import ImportFrom alias Call keyword Attribute Subscript Slice Name Constant List Tuple Dict
    Set ListComp comprehension JoinedStr FormattedValue Lambda IfExp BoolOp And Or UnaryOp Not USub UAdd Invert BinOp
    Add Sub Mult FloorDiv Mod Pow BitAnd BitOr BitXor LShift RShift Compare Eq NotEq Lt LtE Gt GtE Is IsNot In NotIn
    Load Store
""".split())

BUILTINS = set("""
    len range enumerate zip min max sum abs sorted reversed int str bool list tuple dict set frozenset isinstance ord
    repr any all divmod Exception ValueError TypeError KeyError IndexError LookupError ZeroDivisionError
    ArithmeticError OverflowError RuntimeError NotImplementedError AttributeError StopIteration
""".split())

METHODS = set("""
    append clear copy count endswith extend find get index insert isalnum isalpha isdigit islower isspace isupper items
    join keys ljust lower lstrip partition pop remove replace reverse rfind rjust rpartition rsplit rstrip setdefault
    split splitlines startswith strip update upper values zfill bit_length
""".split())

WORDS = set("""
    type typing typing_extensions enum Enum IntEnum StrEnum Flag IntFlag Generic Protocol ABC ABCMeta namedtuple
    NamedTuple TypedDict TYPE_CHECKING abstractmethod
""".split())


def package_files():
    return sorted(path for path in PACKAGE.rglob("*") if "__pycache__" not in path.parts)


def nodes_of(kinds):
    for path in package_files():
        for node in ast.walk(ast.parse(path.read_text(encoding="utf-8"))):
            if isinstance(node, kinds):
                yield node, f"{path.name}:{getattr(node, 'lineno', 0)}"


def bound_names():
    for node, place in nodes_of((ast.Name, ast.arg, ast.FunctionDef, ast.ClassDef)):
        if isinstance(node, ast.Name):
            if isinstance(node.ctx, ast.Store):
                yield node.id, place
        else:
            yield node.arg if isinstance(node, ast.arg) else node.name, place


class LanguageTest(unittest.TestCase):
    def test_files(self):
        names = [path.relative_to(PACKAGE).as_posix() for path in package_files()]
        self.assertIn("__init__.py", names)
        for name in names:
            self.assertRegex(name, r"\A([a-z0-9_]+/)*[a-z0-9_]+(\.py)?\Z")

    def test_signs_and_sizes(self):
        for path in package_files():
            text = path.read_bytes().decode("ascii")
            self.assertRegex(text, r"\A[\n -~]*\Z", path.name)
            self.assertLessEqual(len(text.splitlines()), 400, path.name)
            self.assertLessEqual(max(len(line) for line in text.splitlines()), 120, path.name)

    def test_words(self):
        for path in package_files():
            text = path.read_text(encoding="utf-8")
            self.assertEqual(WORDS & set(re.findall(r"\w+", text)), set(), path.name)
            self.assertNotRegex(text, "dataclass|overload|contextmanager", path.name)

    def test_syntax(self):
        for node, place in nodes_of(ast.AST):
            self.assertIn(type(node).__name__, NODES, place)

    def test_nothing_is_imported(self):
        self.assertEqual([place for node, place in nodes_of((ast.Import, ast.ImportFrom))], [])

    def test_functions(self):
        for node, place in nodes_of(ast.FunctionDef):
            self.assertLessEqual(node.end_lineno - node.lineno + 1, 40, place)
            self.assertEqual(node.decorator_list, [], place)
            arguments = node.args
            self.assertEqual([arguments.vararg, arguments.kwarg, arguments.kwonlyargs], [None, None, []], place)

    def test_names(self):
        for name, place in bound_names():
            self.assertRegex(name, r"\A[A-Za-z][A-Za-z0-9_]*\Z", place)
            self.assertFalse(hasattr(builtins, name), place)

    def test_names_of_python(self):
        for node, place in nodes_of(ast.Name):
            if hasattr(builtins, node.id):
                self.assertIn(node.id, BUILTINS, place)

    def test_methods(self):
        for node, place in nodes_of(ast.Attribute):
            self.assertIn(node.attr, METHODS, place)

    def test_constants(self):
        for node, place in nodes_of(ast.Constant):
            self.assertTrue(node.value is None or type(node.value) in (int, str, bool), place)

    def test_powers_are_written_out(self):
        for node, place in nodes_of(ast.BinOp):
            if isinstance(node.op, ast.Pow):
                self.assertIsInstance(node.right, ast.Constant, place)
                self.assertLessEqual(node.right.value, 64, place)

    def test_one_target_in_an_assignment(self):
        for node, place in nodes_of(ast.Assign):
            self.assertEqual(len(node.targets), 1, place)

    def test_no_else_behind_a_loop(self):
        for node, place in nodes_of((ast.For, ast.While)):
            self.assertEqual(node.orelse, [], place)

    def test_names_of_a_top_are_bound_once_to_plain_values(self):
        for path in package_files():
            names = []
            for node in ast.parse(path.read_text(encoding="utf-8")).body:
                if isinstance(node, ast.Assign):
                    ast.literal_eval(node.value)
                    names.append(node.targets[0].id)
                elif isinstance(node, (ast.FunctionDef, ast.ClassDef)):
                    names.append(node.name)
            self.assertEqual(len(names), len(set(names)), path.name)


if __name__ == "__main__":
    unittest.main()
