"""Holds the package to those rules of its small language that can be counted."""

import ast
import builtins
import os
import re
import unittest

FOLDER = os.path.join(os.path.dirname(os.path.dirname(os.path.abspath(__file__))), "jurypick")

NODES = """Module Import ImportFrom alias FunctionDef Lambda ClassDef arguments arg Assign AugAssign
If While For Return Break Continue Pass Raise Try ExceptHandler Expr Constant Name Load Store
List Tuple Dict BinOp UnaryOp BoolOp Compare IfExp Call Attribute Subscript Slice ListComp
comprehension JoinedStr FormattedValue Add Sub Mult FloorDiv Mod Pow BitAnd BitOr BitXor Invert
LShift RShift USub UAdd Not And Or Eq NotEq Lt LtE Gt GtE Is IsNot In NotIn keyword""".split()

BUILT_IN = """len range enumerate zip min max sum abs sorted reversed int str bool list tuple dict set
frozenset isinstance ord repr any all divmod Exception ValueError TypeError KeyError IndexError
LookupError ZeroDivisionError ArithmeticError OverflowError RuntimeError NotImplementedError
AttributeError StopIteration""".split()

METHODS = """append clear copy count endswith extend find get index insert isalnum isalpha isdigit
islower isspace isupper items join keys ljust lower lstrip partition pop remove replace reverse
rfind rjust rpartition rsplit rstrip setdefault split splitlines startswith strip update upper
values zfill bit_length""".split()

NO_WORDS = """type typing typing_extensions enum Enum IntEnum StrEnum Flag IntFlag Generic Protocol
ABC ABCMeta namedtuple NamedTuple TypedDict TYPE_CHECKING abstractmethod""".split()

PLAIN_NAME = re.compile(r"[A-Za-z][A-Za-z0-9_]*$|__init__$")


def sources():
    for name in sorted(os.listdir(FOLDER)):
        if name != "__pycache__":
            with open(os.path.join(FOLDER, name), encoding="utf-8", newline="") as file:
                yield name, file.read()


def names_bound(tree):
    bound = set()
    for node in ast.walk(tree):
        if isinstance(node, (ast.FunctionDef, ast.ClassDef)):
            bound.add(node.name)
        elif isinstance(node, ast.arg):
            bound.add(node.arg)
        elif isinstance(node, ast.alias):
            bound.add(node.name)
        elif isinstance(node, ast.Name) and isinstance(node.ctx, ast.Store):
            bound.add(node.id)
    return bound


class Files(unittest.TestCase):
    def test_names_and_signs(self):
        for name, text in sources():
            with self.subTest(file=name):
                self.assertRegex(name, r"^([a-z][a-z0-9_]*|__init__)\.py$")
                self.assertEqual([sign for sign in text if sign != "\n" and not " " <= sign <= "~"],
                                 [])

    def test_sizes(self):
        for name, text in sources():
            with self.subTest(file=name):
                rows = text.splitlines()
                self.assertLessEqual(len(rows), 399)
                self.assertLessEqual(max(len(row) for row in rows), 120)
                for node in ast.walk(ast.parse(text)):
                    if isinstance(node, ast.FunctionDef):
                        self.assertLessEqual(node.end_lineno - node.lineno + 1, 40, node.name)

    def test_words(self):
        for name, text in sources():
            with self.subTest(file=name):
                words = re.findall(r"\w+", text)
                self.assertEqual([word for word in words if word in NO_WORDS], [])
                self.assertIsNone(re.search("dataclass|overload|contextmanager", text))

    def test_imports(self):
        drawn = {}
        for name, text in sources():
            module = "jurypick." + name[:-3]
            for node in ast.walk(ast.parse(text)):
                with self.subTest(file=name):
                    self.assertNotIsInstance(node, ast.Import)
                    if isinstance(node, ast.ImportFrom):
                        self.assertRegex(node.module, r"^jurypick\.[a-z0-9_]+$")
                        self.assertEqual(node.level, 0)
                        drawn.setdefault(module, set()).add(node.module)
        ahead = []
        while drawn:
            free = [module for module in drawn if not any(other in drawn for other in drawn[module])]
            self.assertNotEqual(free, [], "files draw from one another")
            ahead += [drawn.pop(module) for module in free]


class Code(unittest.TestCase):
    def test_only_what_the_language_has(self):
        for name, text in sources():
            for node in ast.walk(ast.parse(text)):
                with self.subTest(file=name, line=getattr(node, "lineno", 0)):
                    self.assertIn(node.__class__.__name__, NODES)
                    if isinstance(node, (ast.FunctionDef, ast.ClassDef)):
                        self.assertEqual(node.decorator_list, [])
                        self.assertIsNone(getattr(node, "returns", None))
                    if isinstance(node, ast.arguments):
                        self.assertEqual((node.vararg, node.kwarg, node.kwonlyargs), (None, None, []))
                    if isinstance(node, ast.Assign):
                        self.assertEqual(len(node.targets), 1)
                    if isinstance(node, (ast.While, ast.For)):
                        self.assertEqual(node.orelse, [])

    def test_names(self):
        everything = {name: ast.parse(text) for name, text in sources()}
        methods, values, called = set(), set(), set()
        for name, tree in everything.items():
            bound = names_bound(tree)
            for node in ast.walk(tree):
                if isinstance(node, ast.Name):
                    self.assertTrue(node.id in bound or node.id in BUILT_IN, (name, node.id))
                if isinstance(node, ast.ClassDef):
                    methods.update(part.name for part in node.body)
                if isinstance(node, ast.Attribute) and isinstance(node.ctx, ast.Store):
                    values.add(node.attr)
                if isinstance(node, ast.Attribute) and isinstance(node.ctx, ast.Load):
                    called.add(node.attr)
            for word in bound:
                self.assertRegex(word, PLAIN_NAME)
                self.assertNotIn(word, dir(builtins))
        self.assertEqual(methods & values, set())
        self.assertEqual(called - methods - values - set(METHODS), set())
        taken = set()
        for value in ("", b"", 0, [], {}, set()):
            taken.update(dir(value))
        self.assertEqual((methods | values) & taken, {"__init__"})


if __name__ == "__main__":
    unittest.main()
