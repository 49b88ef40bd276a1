"""Holds the package to a part of LANGUAGE.md: signs, sizes, words, names, imports, classes, kinds of statement."""

import ast
import builtins
import os
import re
import unittest

import leasehold

FOLDER = os.path.dirname(os.path.abspath(leasehold.__file__))

OWN_NAMES = set(
    "len range enumerate zip min max sum abs sorted reversed int str bool list tuple dict set frozenset"
    " isinstance ord repr any all divmod Exception ValueError TypeError KeyError IndexError LookupError"
    " ZeroDivisionError ArithmeticError OverflowError RuntimeError NotImplementedError AttributeError"
    " StopIteration".split()
)
UNDERSCORED = set("__init__ __eq__ __repr__ __str__ __len__ __all__ __version__".split())
UNUSED_NAMES = set(
    "attrgetter breakpoint builtins compile copyright credits delattr dir eval exec exit gc getattr globals"
    " hasattr help id importlib license locals methodcaller os quit setattr super type vars sys".split()
)
UNUSED_ANYWHERE = set("register mro elements open input version_info with_traceback add_note format format_map".split())
UNUSED_WORDS = re.compile(
    r"\b(type|typing|typing_extensions|enum|Enum|IntEnum|StrEnum|Flag|IntFlag|Generic|Protocol|ABC|ABCMeta"
    r"|namedtuple|NamedTuple|TypedDict|TYPE_CHECKING|abstractmethod)\b|dataclass|overload|contextmanager"
)
NODES = set(
    "Module Expr Constant ImportFrom alias FunctionDef arguments arg ClassDef Assign AugAssign If While For Return"
    " Break Continue Pass Raise Try ExceptHandler Call keyword Name Load Store Attribute Subscript Slice List Tuple"
    " Dict Set ListComp comprehension BinOp UnaryOp BoolOp Compare IfExp Lambda JoinedStr FormattedValue Add Sub Mult"
    " FloorDiv Mod Pow LShift RShift BitOr BitXor BitAnd Invert Not UAdd USub And Or Eq NotEq Lt LtE Gt GtE Is IsNot"
    " In NotIn".split()
)
BOUND = (ast.FunctionDef, ast.ClassDef)


def files():
    return sorted(each for each in os.listdir(FOLDER) if each != "__pycache__")


def text_of(name):
    with open(os.path.join(FOLDER, name), encoding="utf-8", newline="") as source:
        return source.read()


def sources():
    return [(name, text_of(name), ast.parse(text_of(name))) for name in files()]


def methods_of(tree):
    return [each for node in ast.walk(tree) if isinstance(node, ast.ClassDef) for each in node.body]


def bound_names(tree):
    methods = methods_of(tree)
    for node in ast.walk(tree):
        if isinstance(node, BOUND) and node not in methods:
            yield node.name
        elif isinstance(node, ast.arg):
            yield node.arg
        elif isinstance(node, ast.Name) and isinstance(node.ctx, ast.Store):
            yield node.id


def all_names(tree):
    for node in ast.walk(tree):
        if isinstance(node, BOUND):
            yield node.name
        elif isinstance(node, ast.arg):
            yield node.arg
        elif isinstance(node, ast.Name):
            yield node.id
        elif isinstance(node, ast.Attribute):
            yield node.attr


class FormTest(unittest.TestCase):
    def test_files(self):
        self.assertIn("__init__.py", files())
        for name in files():
            self.assertRegex(name, r"\A([a-z][a-z0-9_]*|__init__|__main__)\.py\Z")

    def test_signs_and_sizes(self):
        for name, text, tree in sources():
            with self.subTest(file=name):
                self.assertRegex(text, r"\A[ -~\n]*\Z")
                self.assertLessEqual(len(text.split("\n")), 401)
                self.assertLessEqual(max(len(line) for line in text.split("\n")), 120)
                for node in ast.walk(tree):
                    if isinstance(node, ast.FunctionDef):
                        self.assertLessEqual(node.end_lineno - node.lineno + 1, 40, node.name)

    def test_words(self):
        for name, text, tree in sources():
            with self.subTest(file=name):
                self.assertIsNone(UNUSED_WORDS.search(text))

    def test_statements_and_expressions(self):
        for name, text, tree in sources():
            with self.subTest(file=name):
                for node in ast.walk(tree):
                    self.assertIn(type(node).__name__, NODES, getattr(node, "lineno", None))
                    if isinstance(node, ast.Constant):
                        self.assertIn(type(node.value), (int, str, bool, type(None)))
                    if isinstance(node, BOUND):
                        self.assertEqual(node.decorator_list, [])
                    if isinstance(node, ast.Expr) and node is not tree.body[0]:
                        self.assertIsInstance(node.value, ast.Call)

    def test_imports(self):
        for name, text, tree in sources():
            with self.subTest(file=name):
                for node in ast.walk(tree):
                    if isinstance(node, ast.ImportFrom):
                        self.assertIn(node, tree.body)
                        self.assertEqual(node.level, 0)
                        self.assertRegex(node.module, r"\Aleasehold\.[a-z0-9_]+\Z")
                        self.assertNotIn("*", [each.name for each in node.names])

    def test_classes(self):
        for name, text, tree in sources():
            with self.subTest(file=name):
                for node in ast.walk(tree):
                    if isinstance(node, ast.ClassDef):
                        self.assertIn(node, tree.body)
                        self.assertLessEqual(len(node.bases) + len(node.keywords), 1)
                        for each in node.body:
                            self.assertIsInstance(each, (ast.FunctionDef, ast.Pass))

    def test_names(self):
        for name, text, tree in sources():
            with self.subTest(file=name):
                for each in all_names(tree):
                    self.assertTrue(each in UNDERSCORED or re.fullmatch(r"[A-Za-z][A-Za-z0-9_]*", each), each)
                    self.assertNotIn(each, UNUSED_ANYWHERE)
                for each in bound_names(tree):
                    self.assertFalse(hasattr(builtins, each), each)
                for node in ast.walk(tree):
                    if isinstance(node, ast.Name):
                        self.assertNotIn(node.id, UNUSED_NAMES)
                        self.assertTrue(node.id in OWN_NAMES or not hasattr(builtins, node.id), node.id)

    def test_no_name_is_a_method_here_and_a_value_there(self):
        methods, values = set(), set()
        for name, text, tree in sources():
            with self.subTest(file=name):
                methods.update(each.name for each in methods_of(tree) if isinstance(each, ast.FunctionDef))
                values.update(
                    node.attr for node in ast.walk(tree)
                    if isinstance(node, ast.Attribute) and isinstance(node.ctx, ast.Store)
                )
        self.assertEqual(methods & values, set())


if __name__ == "__main__":
    unittest.main()
