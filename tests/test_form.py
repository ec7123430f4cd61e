"""The form of the package's files: the small part of Python that they keep to, as far as it can be read off."""

import ast
import builtins
import re
import unittest
from pathlib import Path

import strongway

FOLDER = Path(strongway.__file__).resolve().parent
FILES = sorted(path for path in FOLDER.rglob("*") if path.is_file() and "__pycache__" not in path.parts)
BUILTINS = """len range enumerate zip min max sum abs sorted reversed int str bool list tuple dict set frozenset
    isinstance ord repr any all divmod Exception ValueError TypeError KeyError IndexError LookupError
    ZeroDivisionError ArithmeticError OverflowError RuntimeError NotImplementedError AttributeError
    StopIteration""".split()
METHODS = """append clear copy count endswith extend find get index insert isalnum isalpha isdigit islower isspace
    isupper items join keys ljust lower lstrip partition pop remove replace reverse rfind rjust rpartition rsplit
    rstrip setdefault split splitlines startswith strip update upper values zfill bit_length""".split()
WORDS = """type typing typing_extensions enum Enum IntEnum StrEnum Flag IntFlag Generic Protocol ABC ABCMeta namedtuple
    NamedTuple TypedDict TYPE_CHECKING abstractmethod""".split()
NODES = """Module Expr Constant ImportFrom alias FunctionDef arguments arg ClassDef Assign AugAssign If While For
    Return Break Continue Pass Raise Try ExceptHandler Lambda Name Load Store Attribute Subscript Slice List Tuple Dict
    Call keyword BinOp Add Sub Mult FloorDiv Mod Pow LShift RShift BitOr BitAnd BitXor UnaryOp USub Not Invert Compare
    Eq NotEq Lt LtE Gt GtE Is IsNot In NotIn BoolOp And Or IfExp ListComp comprehension JoinedStr
    FormattedValue""".split()


def trees():
    return [(path.name, ast.parse(path.read_text(encoding="utf-8"))) for path in FILES]


def nodes(*kinds):
    return [(name, node) for name, tree in trees() for node in ast.walk(tree) if isinstance(node, kinds)]


class Form(unittest.TestCase):
    def test_plain_files(self):
        self.assertIn("__init__.py", [path.name for path in FILES])
        for path in FILES:
            self.assertRegex(path.name, r"\A([a-z][a-z0-9_]*|__init__|__main__)\.py\Z")

    def test_signs_and_sizes(self):
        for path in FILES:
            text = path.read_text(encoding="utf-8")
            self.assertRegex(text, r"\A[ -~\n]*\Z", path.name)
            self.assertLessEqual(len(text.splitlines()), 400, path.name)
            for line in text.splitlines():
                self.assertLessEqual(len(line), 120, (path.name, line))

    def test_words_that_stand_nowhere(self):
        for path in FILES:
            for word in re.findall(r"\w+", path.read_text(encoding="utf-8")):
                self.assertNotIn(word, WORDS, path.name)
                self.assertNotRegex(word, "dataclass|overload|contextmanager", path.name)

    def test_kinds_of_nodes(self):
        for name, node in nodes(ast.stmt, ast.expr, ast.arguments, ast.operator, ast.comprehension):
            self.assertIn(type(node).__name__, NODES, (name, getattr(node, "lineno", 0)))

    def test_own_imports_alone(self):
        for name, node in nodes(ast.ImportFrom):
            self.assertEqual(node.level, 0, name)
            self.assertRegex(node.module, r"\Astrongway\.[a-z]+\Z", name)
            self.assertNotIn("*", [each.name for each in node.names], name)

    def test_functions_are_small_and_plain(self):
        for name, node in nodes(ast.FunctionDef):
            self.assertLessEqual(node.end_lineno - node.lineno + 1, 40, (name, node.name))
            self.assertEqual(node.decorator_list, [], (name, node.name))
            given = node.args
            self.assertEqual((given.vararg, given.kwarg, given.kwonlyargs, given.posonlyargs), (None, None, [], []))

    def test_names(self):
        for name, node in nodes(ast.Name, ast.arg, ast.FunctionDef, ast.ClassDef):
            word = getattr(node, "id", None) or getattr(node, "arg", None) or getattr(node, "name", None)
            if re.fullmatch(r"__(init|eq|repr|str|len)__", word):
                continue
            self.assertFalse(word.startswith("_"), (name, word))
            if hasattr(builtins, word):
                self.assertIn(word, BUILTINS, name)
                self.assertIsInstance(getattr(node, "ctx", None), ast.Load, (name, word))

    def test_methods(self):
        own = [node.name for name, node in nodes(ast.FunctionDef)]
        for name, node in nodes(ast.Call):
            if isinstance(node.func, ast.Attribute):
                self.assertIn(node.func.attr, METHODS + own, name)

    def test_simple_assignments_and_comprehensions(self):
        for name, node in nodes(ast.Assign):
            self.assertEqual(len(node.targets), 1, (name, node.lineno))
        for name, node in nodes(ast.ListComp):
            self.assertEqual(len(node.generators), 1, (name, node.lineno))
            self.assertLessEqual(len(node.generators[0].ifs), 1, (name, node.lineno))
        for name, node in nodes(ast.For, ast.While):
            self.assertEqual(node.orelse, [], (name, node.lineno))


if __name__ == "__main__":
    unittest.main()
