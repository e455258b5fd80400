"""The rules of the language that a simple look at the files can tell (LANGUAGE.md, by number)."""

import ast
import builtins
import os
import re
import unittest

FOLDER = os.path.join(os.path.dirname(os.path.dirname(os.path.abspath(__file__))), "rakedpapers")

ALLOWED_BUILTINS = set(
    "len range enumerate zip min max sum abs sorted reversed int str bool bytes list tuple dict set frozenset"
    " isinstance ord repr any all divmod iter next super property staticmethod classmethod object Exception"
    " ValueError TypeError KeyError IndexError LookupError ZeroDivisionError ArithmeticError OverflowError"
    " RuntimeError NotImplementedError AttributeError StopIteration NotImplemented".split()
)
DOUBLE_UNDERSCORE = set(
    "__init__ __eq__ __repr__ __str__ __len__ __enter__ __exit__ __call__ __iter__".split()
)
METHODS = set(
    "append clear copy count endswith extend find get index insert isalnum isalpha isdigit islower isspace isupper"
    " items join keys ljust lower lstrip partition pop remove replace reverse rfind rjust rpartition rsplit rstrip"
    " setdefault split splitlines startswith strip update upper values zfill bit_length add discard".split()
)
BARRED_WORDS = re.compile(
    r"\b(type|typing|typing_extensions|enum|Enum|IntEnum|StrEnum|Flag|IntFlag|Generic|Protocol|ABC|ABCMeta"
    r"|namedtuple|NamedTuple|TypedDict|TYPE_CHECKING|abstractmethod)\b|dataclass|overload|contextmanager"
)
BARRED_NAMES = set(
    "register mro elements open input law version_info with_traceback add_note attrgetter breakpoint builtins"
    " compile copyright credits delattr dir eval exec exit gc getattr globals hasattr help id importlib license"
    " locals methodcaller os quit setattr type vars sys".split()
)
BARRED_NODES = (
    ast.Global, ast.AsyncFunctionDef, ast.AsyncFor, ast.AsyncWith, ast.Await, ast.Import, ast.Div, ast.MatMult,
)
NEED_A_LIST = ("any", "all", "min", "max", "sum", "sorted")


def read(name):
    """Return the text of a file of the package."""
    with open(os.path.join(FOLDER, name), encoding="utf-8") as file:
        return file.read()


def names_bound(tree):
    """Return all names that a file gives to anything."""
    found = []
    for node in ast.walk(tree):
        if isinstance(node, (ast.FunctionDef, ast.ClassDef)):
            found.append(node.name)
        elif isinstance(node, ast.arg):
            found.append(node.arg)
        elif isinstance(node, ast.Name) and not isinstance(node.ctx, ast.Load):
            found.append(node.id)
        elif isinstance(node, ast.Attribute) and not isinstance(node.ctx, ast.Load):
            found.append(node.attr)
        elif isinstance(node, ast.alias):
            found.append(node.asname or node.name)
    return found


class Language(unittest.TestCase):
    def setUp(self):
        self.files = sorted(name for name in os.listdir(FOLDER) if name != "__pycache__")
        self.texts = {name: read(name) for name in self.files}
        self.trees = {name: ast.parse(text) for name, text in self.texts.items()}

    def nodes(self):
        return [(name, node) for name, tree in self.trees.items() for node in ast.walk(tree)]

    def test_l1_l14_files_and_characters(self):
        self.assertIn("__init__.py", self.files)
        for name, text in self.texts.items():
            with self.subTest(name):
                self.assertRegex(name, r"\A[a-z_][a-z0-9_]*\.py\Z")
                self.assertRegex(text, r"\A[ -~\n]*\n\Z")

    def test_l2_l16_imports(self):
        for name, node in self.nodes():
            if isinstance(node, ast.ImportFrom):
                with self.subTest(file=name, line=node.lineno):
                    self.assertEqual(node.level, 0)
                    self.assertRegex(node.module, r"\Arakedpapers\.[a-z_]+\Z")
                    bodies = self.trees[node.module.split(".")[1] + ".py"].body
                    own = ast.Module([one for one in bodies if not isinstance(one, ast.ImportFrom)], [])
                    defined = names_bound(own)
                    self.assertLessEqual({alias.name for alias in node.names}, set(defined))

    def test_l10_size(self):
        for name, text in self.texts.items():
            lines = text.split("\n")
            self.assertLess(len(lines), 400, name)
            self.assertLessEqual(max(len(line) for line in lines), 120, name)
        for name, node in self.nodes():
            if isinstance(node, ast.FunctionDef):
                self.assertLess(node.end_lineno - node.lineno, 40, f"{name}: {node.name}")

    def test_l12_l15_l17_names_and_words(self):
        for name, tree in self.trees.items():
            with self.subTest(name):
                self.assertIsNone(BARRED_WORDS.search(self.texts[name]))
                for bound in names_bound(tree):
                    self.assertTrue(bound in DOUBLE_UNDERSCORE or not bound.startswith("_"), bound)
                    self.assertNotIn(bound, BARRED_NAMES)
                    self.assertNotIn(bound, dir(builtins))

    def test_l15_no_second_meaning_for_imports_and_classes(self):
        for name, tree in self.trees.items():
            taken = {alias.name for node in tree.body if isinstance(node, ast.ImportFrom) for alias in node.names}
            taken |= {node.name for node in tree.body if isinstance(node, ast.ClassDef)}
            for node in ast.walk(tree):
                if isinstance(node, ast.arg):
                    self.assertNotIn(node.arg, taken, name)
                if isinstance(node, ast.Name) and not isinstance(node.ctx, ast.Load):
                    self.assertNotIn(node.id, taken, name)

    def test_l18_no_name_is_a_method_and_an_attribute(self):
        methods = {
            one.name for name, node in self.nodes() if isinstance(node, ast.ClassDef)
            for one in node.body if isinstance(one, ast.FunctionDef)}
        attributes = {
            node.attr for name, node in self.nodes()
            if isinstance(node, ast.Attribute) and not isinstance(node.ctx, ast.Load)}
        self.assertEqual(methods & attributes, set())

    def test_l24_no_set_is_iterated(self):
        sets = (ast.Set, ast.SetComp)
        for name, node in self.nodes():
            if isinstance(node, (ast.For, ast.comprehension)):
                self.assertNotIsInstance(node.iter, sets, name)

    def test_l6_l7_statements_and_operators(self):
        for name, node in self.nodes():
            with self.subTest(file=name, line=getattr(node, "lineno", 0)):
                self.assertNotIsInstance(node, BARRED_NODES)
                if isinstance(node, ast.Constant):
                    self.assertNotIsInstance(node.value, (float, complex))
                    if isinstance(node.value, str):
                        self.assertNotIn("%", node.value)
                if isinstance(node, ast.Call) and isinstance(node.func, ast.Name) and node.func.id in NEED_A_LIST:
                    self.assertFalse(any(isinstance(one, ast.GeneratorExp) for one in node.args))

    def test_l8_l25_l26_builtins_and_methods(self):
        own = {bound for tree in self.trees.values() for bound in names_bound(tree)}
        for name, node in self.nodes():
            with self.subTest(file=name, line=getattr(node, "lineno", 0)):
                if isinstance(node, ast.Name) and node.id in dir(builtins):
                    self.assertIn(node.id, ALLOWED_BUILTINS)
                if isinstance(node, ast.Attribute):
                    self.assertIn(node.attr, own | METHODS | {"__init__"})
