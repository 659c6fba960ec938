"""The package's own files keep to the small part of Python that the project is written in."""

import ast
import pathlib
import re
import unittest

PACKAGE = pathlib.Path(__file__).resolve().parent.parent / "resindrawn"
FILES = sorted(PACKAGE.glob("*.py"))

NODES = set("""
    Module Expr Constant Import ImportFrom alias FunctionDef ClassDef arguments arg Lambda Return Assign AugAssign If
    While For Break Continue Pass Raise Try ExceptHandler Call keyword Attribute Subscript Slice Name Load Store Tuple
    List Dict Set ListComp comprehension BinOp UnaryOp BoolOp Compare IfExp JoinedStr FormattedValue Add Sub Mult
    FloorDiv Mod Pow BitAnd BitOr BitXor LShift RShift Invert Not USub And Or Eq NotEq Lt LtE Gt GtE Is IsNot In NotIn
""".split())
PYTHONS_OWN = set("""
    len range enumerate zip min max sum abs sorted reversed int str bool list tuple dict set frozenset isinstance ord
    repr any all divmod Exception ValueError TypeError KeyError IndexError LookupError ZeroDivisionError
    ArithmeticError OverflowError RuntimeError NotImplementedError StopIteration
""".split())
METHODS = set("""
    append clear copy count endswith extend find get index insert isalnum isalpha isdigit islower isspace isupper items
    join keys ljust lower lstrip partition pop remove replace reverse rfind rjust rpartition rsplit rstrip setdefault
    split splitlines startswith strip update upper values zfill bit_length
""".split())
WORDS = ("type typing typing_extensions enum Enum IntEnum StrEnum Flag IntFlag Generic Protocol ABC ABCMeta namedtuple "
         "NamedTuple TypedDict TYPE_CHECKING abstractmethod").split()
TOP = (ast.FunctionDef, ast.ClassDef, ast.ImportFrom, ast.Assign)


def bound_names(tree):
    """Every name that a file gives a meaning: defs, classes, imports, parameters, what is assigned."""
    for node in ast.walk(tree):
        if isinstance(node, (ast.FunctionDef, ast.ClassDef)):
            yield node.name
        elif isinstance(node, ast.arg):
            yield node.arg
        elif isinstance(node, ast.alias):
            yield node.asname or node.name
        elif isinstance(node, ast.Name) and isinstance(node.ctx, ast.Store):
            yield node.id


class Language(unittest.TestCase):
    @classmethod
    def setUpClass(cls):
        cls.texts = {path: path.read_text(encoding="utf-8") for path in FILES}
        cls.trees = {path: ast.parse(text) for path, text in cls.texts.items()}
        cls.own_methods = {
            one.name for tree in cls.trees.values() for node in ast.walk(tree) if isinstance(node, ast.ClassDef)
            for one in node.body if isinstance(one, ast.FunctionDef)}

    def test_the_package_holds_its_files_alone(self):
        names = [path.name for path in PACKAGE.iterdir() if path.name != "__pycache__"]
        self.assertIn("__init__.py", names)
        for name in names:
            self.assertRegex(name, r"\A([a-z][a-z0-9_]*|__init__)\.py\Z")

    def test_size_and_signs(self):
        for path, text in self.texts.items():
            with self.subTest(path.name):
                self.assertLessEqual(len(text.splitlines()), 400)
                self.assertLessEqual(max(len(row) for row in text.splitlines()), 120)
                self.assertRegex(text, r"\A[ -~\n]*\Z")
                self.assertNotRegex(text, r"\b(" + "|".join(WORDS) + r")\b|dataclass|overload|contextmanager")

    def test_functions_are_small(self):
        for path, tree in self.trees.items():
            for node in ast.walk(tree):
                if isinstance(node, ast.FunctionDef):
                    with self.subTest(path.name, name=node.name):
                        self.assertLessEqual(node.end_lineno - node.lineno + 1, 40)
                        self.assertEqual(node.decorator_list, [])

    def test_statements_and_expressions(self):
        for path, tree in self.trees.items():
            for node in ast.walk(tree):
                with self.subTest(path.name, row=getattr(node, "lineno", 0)):
                    self.assertIn(node.__class__.__name__, NODES)
                    self.assertFalse(isinstance(node, ast.Constant) and isinstance(node.value, (float, bytes)))
                    self.assertFalse(isinstance(node, (ast.For, ast.While)) and node.orelse)
                    self.assertFalse(isinstance(node, ast.Assign) and len(node.targets) > 1)
                    self.assertFalse(isinstance(node, ast.ListComp) and len(node.generators) > 1)

    def test_the_top_of_a_file(self):
        for path, tree in self.trees.items():
            with self.subTest(path.name):
                self.assertIsNotNone(ast.get_docstring(tree))
                for node in tree.body[1:]:
                    self.assertIsInstance(node, TOP)

    def test_imports_come_from_the_file_that_defines_the_name(self):
        for path, tree in self.trees.items():
            for node in ast.walk(tree):
                self.assertNotIsInstance(node, ast.Import)
                if isinstance(node, ast.ImportFrom):
                    with self.subTest(path.name, row=node.lineno):
                        self.assertRegex(node.module, r"\Aresindrawn\.[a-z0-9_]+\Z")
                        source = self.trees[PACKAGE / (node.module.split(".")[1] + ".py")]
                        defined = [one.name for one in source.body if isinstance(one, (ast.FunctionDef, ast.ClassDef))]
                        defined += [one.targets[0].id for one in source.body if isinstance(one, ast.Assign)]
                        self.assertLessEqual({alias.name for alias in node.names}, set(defined))

    def test_names(self):
        python_names = set(dir(__builtins__) if not isinstance(__builtins__, dict) else __builtins__)
        for path, tree in self.trees.items():
            bound = set(bound_names(tree))
            with self.subTest(path.name):
                self.assertEqual((bound - self.own_methods) & python_names, set())
                used = {node.id for node in ast.walk(tree) if isinstance(node, ast.Name)}
                self.assertLessEqual(used - bound, PYTHONS_OWN)
                self.assertEqual([name for name in bound - {"__init__"} if re.match("_", name)], [])

    def test_methods_and_values(self):
        values = set()
        called = set()
        for tree in self.trees.values():
            for node in ast.walk(tree):
                if isinstance(node, ast.Attribute) and isinstance(node.ctx, ast.Store):
                    values.add(node.attr)
                if isinstance(node, ast.Call) and isinstance(node.func, ast.Attribute):
                    called.add(node.func.attr)
        self.assertEqual(values & self.own_methods, set())
        self.assertLessEqual(called, METHODS | self.own_methods)
        for kind in (str, int, list, tuple, dict, set, bytes):
            self.assertEqual(values & set(dir(kind)), set())


if __name__ == "__main__":
    unittest.main()
