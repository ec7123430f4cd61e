"""The form of the package's files: the small part of Python that they keep to, as far as it can be read off."""

import ast
import builtins
import re
import unittest
from pathlib import Path

import strongway

FOLDER = Path(strongway.__file__).resolve().parent
FILES = sorted(path for path in FOLDER.rglob("*") if path.is_file() and "__pycache__" not in path.parts)
BUILTINS = """len range enumerate zip min max sum abs sorted reversed int str bool list tuple dict set frozenset
    isinstance ord repr any all divmod Exception ValueError TypeError KeyError IndexError LookupError
    ZeroDivisionError ArithmeticError OverflowError RuntimeError NotImplementedError AttributeError
    StopIteration""".split()
METHODS = """append clear copy count endswith extend find get index insert isalnum isalpha isdigit islower isspace
    isupper items join keys ljust lower lstrip partition pop remove replace reverse rfind rjust rpartition rsplit
    rstrip setdefault split splitlines startswith strip update upper values zfill bit_length""".split()
WORDS = """type typing typing_extensions enum Enum IntEnum StrEnum Flag IntFlag Generic Protocol ABC ABCMeta namedtuple
    NamedTuple TypedDict TYPE_CHECKING abstractmethod""".split()
BARRED = """register mro elements open input version_info with_traceback add_note attrgetter breakpoint builtins compile
    copyright credits delattr dir eval exec exit gc getattr globals hasattr help id importlib license locals
    methodcaller os quit setattr super vars sys chr format format_map sort""".split()
BARRED_VALUES = """items keys values pop update append clear extend insert remove reverse setdefault sort args encode
    format""".split()
PLAIN_VALUES = (int, str, bool, float, list, tuple, dict, set, bytes)
NODES = """Module Expr Constant ImportFrom alias FunctionDef arguments arg ClassDef Assign AugAssign If While For
    Return Break Continue Pass Raise Try ExceptHandler Lambda Name Load Store Attribute Subscript Slice List Tuple Dict
    Call keyword BinOp Add Sub Mult FloorDiv Mod Pow LShift RShift BitOr BitAnd BitXor UnaryOp USub Not Invert Compare
    Eq NotEq Lt LtE Gt GtE Is IsNot In NotIn BoolOp And Or IfExp ListComp comprehension JoinedStr
    FormattedValue""".split()


def trees():
    return [(path.name, ast.parse(path.read_text(encoding="utf-8"))) for path in FILES]


def nodes(*kinds):
    return [(name, node) for name, tree in trees() for node in ast.walk(tree) if isinstance(node, kinds)]


class Form(unittest.TestCase):
    def test_plain_files(self):
        self.assertIn("__init__.py", [path.name for path in FILES])
        for path in FILES:
            self.assertRegex(path.name, r"\A([a-z][a-z0-9_]*|__init__|__main__)\.py\Z")

    def test_signs_and_sizes(self):
        for path in FILES:
            text = path.read_text(encoding="utf-8")
            self.assertRegex(text, r"\A[ -~\n]*\Z", path.name)
            self.assertLessEqual(len(text.splitlines()), 400, path.name)
            for line in text.splitlines():
                self.assertLessEqual(len(line), 120, (path.name, line))

    def test_words_that_stand_nowhere(self):
        for path in FILES:
            for word in re.findall(r"\w+", path.read_text(encoding="utf-8")):
                self.assertNotIn(word, WORDS, path.name)
                self.assertNotRegex(word, "dataclass|overload|contextmanager", path.name)

    def test_kinds_of_nodes(self):
        for name, node in nodes(ast.stmt, ast.expr, ast.arguments, ast.operator, ast.comprehension):
            self.assertIn(type(node).__name__, NODES, (name, getattr(node, "lineno", 0)))

    def test_own_imports_alone(self):
        for name, node in nodes(ast.ImportFrom):
            self.assertEqual(node.level, 0, name)
            self.assertRegex(node.module, r"\Astrongway\.[a-z]+\Z", name)
            self.assertNotIn("*", [each.name for each in node.names], name)

    def test_functions_are_small_and_plain(self):
        for name, node in nodes(ast.FunctionDef):
            self.assertLessEqual(node.end_lineno - node.lineno + 1, 40, (name, node.name))
            self.assertEqual(node.decorator_list, [], (name, node.name))
            given = node.args
            self.assertEqual((given.vararg, given.kwarg, given.kwonlyargs, given.posonlyargs), (None, None, [], []))

    def test_names(self):
        for name, node in nodes(ast.Name, ast.arg, ast.FunctionDef, ast.ClassDef):
            word = getattr(node, "id", None) or getattr(node, "arg", None) or getattr(node, "name", None)
            if re.fullmatch(r"__(init|eq|repr|str|len)__", word):
                continue
            self.assertFalse(word.startswith("_"), (name, word))
            if hasattr(builtins, word):
                self.assertIn(word, BUILTINS, name)
                self.assertIsInstance(getattr(node, "ctx", None), ast.Load, (name, word))

    def test_methods(self):
        own = [node.name for name, node in nodes(ast.FunctionDef)]
        for name, node in nodes(ast.Call):
            if isinstance(node.func, ast.Attribute):
                self.assertIn(node.func.attr, METHODS + own, name)

    def test_simple_assignments_and_comprehensions(self):
        for name, node in nodes(ast.Assign):
            self.assertEqual(len(node.targets), 1, (name, node.lineno))
        for name, node in nodes(ast.ListComp):
            self.assertEqual(len(node.generators), 1, (name, node.lineno))
            self.assertLessEqual(len(node.generators[0].ifs), 1, (name, node.lineno))
        for name, node in nodes(ast.For, ast.While):
            self.assertEqual(node.orelse, [], (name, node.lineno))

    def test_each_name_once_at_the_top(self):
        for name, tree in trees():
            bound = [word for node in tree.body for word in bound_at_top(node)]
            self.assertEqual(sorted(set(bound)), sorted(bound), name)

    def test_locals_are_not_called_like_imports_classes_or_defs(self):
        for name, tree in trees():
            top = [word for node in tree.body for word in bound_at_top(node)]
            for node in ast.walk(tree):
                if isinstance(node, ast.arg):
                    self.assertNotIn(node.arg, top, name)
                if isinstance(node, ast.Name) and isinstance(node.ctx, ast.Store) and node.col_offset > 0:
                    self.assertNotIn(node.id, top, name)

    def test_imports_come_from_the_file_that_defines_and_never_in_a_circle(self):
        defined = {}
        drawn = {}
        for name, tree in trees():
            module = "strongway." + name[:-len(".py")]
            bound = [node for node in tree.body if not isinstance(node, ast.ImportFrom)]
            defined[module] = [word for node in bound for word in bound_at_top(node)]
            drawn[module] = [node for node in tree.body if isinstance(node, ast.ImportFrom)]
        for module in drawn:
            for node in drawn[module]:
                for each in node.names:
                    self.assertIn(each.name, defined[node.module], module)
                    self.assertIsNone(each.asname, module)
        left = {module: [node.module for node in drawn[module]] for module in drawn}
        while left:
            free = [module for module in left if not any(other in left for other in left[module])]
            self.assertNotEqual(free, [], left)
            for module in free:
                left.pop(module)

    def test_names_that_are_not_used(self):
        for name, node in nodes(ast.Name, ast.Attribute, ast.arg, ast.FunctionDef):
            word = getattr(node, "id", None) or getattr(node, "attr", None) or getattr(node, "arg", None)
            self.assertNotIn(word or node.name, BARRED, name)

    def test_methods_and_values_of_objects(self):
        bodies = [each for name, node in nodes(ast.ClassDef) for each in node.body]
        methods = [each.name for each in bodies if isinstance(each, ast.FunctionDef)]
        stored = [node.attr for name, node in nodes(ast.Attribute) if isinstance(node.ctx, ast.Store)]
        self.assertEqual(sorted(set(methods) & set(stored)), [])
        for word in stored:
            self.assertNotIn(word, BARRED_VALUES)
            self.assertTrue(word == "count" or not any(hasattr(kind, word) for kind in PLAIN_VALUES), word)

    def test_only_own_errors_are_taken(self):
        own = [node.name for name, node in nodes(ast.ClassDef)]
        for name, node in nodes(ast.Try):
            self.assertEqual(node.finalbody, [], name)
            for handler in node.handlers:
                self.assertIsInstance(handler.type, ast.Name, name)
                self.assertIn(handler.type.id, own, name)

    def test_texts(self):
        for name, node in nodes(ast.Constant):
            if isinstance(node.value, str):
                self.assertNotIn("%", node.value, name)
            self.assertIn(node.value.__class__, (int, str, bool, None.__class__), name)

    def test_nothing_that_is_only_walked_is_kept(self):
        for name, node in nodes(ast.Assign, ast.Return):
            if isinstance(node.value, ast.Call) and isinstance(node.value.func, ast.Name):
                self.assertNotIn(node.value.func.id, ("zip", "enumerate", "reversed", "range", "set"), name)

    def test_is_stands_beside_none_true_and_false(self):
        for name, node in nodes(ast.Compare):
            for operator, side in zip(node.ops, node.comparators):
                if isinstance(operator, (ast.Is, ast.IsNot)):
                    self.assertIn(getattr(side, "value", "other"), (None, True, False), name)


def bound_at_top(node):
    if isinstance(node, ast.ImportFrom):
        return [each.asname or each.name for each in node.names]
    if isinstance(node, (ast.FunctionDef, ast.ClassDef)):
        return [node.name]
    if isinstance(node, ast.Assign):
        return [target.id for target in node.targets]
    return []


if __name__ == "__main__":
    unittest.main()
