"""The package's own files keep to the small part of Python that the program is written in."""

import ast
import builtins
import pathlib
import re
import unittest

import waitboard

FOLDER = pathlib.Path(waitboard.__file__).parent

LEFT_OUT = (ast.With, ast.AsyncWith, ast.Match, ast.Delete, ast.Global, ast.Nonlocal, ast.Assert, ast.Yield,
            ast.YieldFrom, ast.AsyncFunctionDef, ast.AsyncFor, ast.Await, ast.SetComp, ast.DictComp, ast.GeneratorExp,
            ast.NamedExpr, ast.Starred, ast.Div, ast.Set, ast.Import, ast.AnnAssign)

ALLOWED = ("len range enumerate zip min max sum abs sorted reversed int str bool list tuple dict set frozenset "
           "isinstance ord repr any all divmod ValueError KeyError ZeroDivisionError").split()

METHODS = ("append clear copy count endswith extend find get index insert items join keys pop remove replace reverse "
           "setdefault update values bit_length").split()

WORDS = re.compile(r"\b(type|typing|typing_extensions|enum|Enum|IntEnum|StrEnum|Flag|IntFlag|Generic|Protocol|ABC|ABCMeta"
                   r"|namedtuple|NamedTuple|TypedDict|TYPE_CHECKING|abstractmethod)\b|dataclass|overload|contextmanager")

NOT_USED = ("register elements open input version_info attrgetter breakpoint builtins compile delattr dir eval exec exit "
            "gc getattr globals hasattr help id importlib locals methodcaller os quit setattr super type vars sys").split()

OWN_OF_PYTHON = {name for kind in (str, int, list, dict, set, bytes, tuple) for name in dir(kind)}


def methods_of(node):
    return {part.name for part in node.body if isinstance(part, ast.FunctionDef)}


def bound_names(tree):
    for node in ast.walk(tree):
        if isinstance(node, ast.Name) and isinstance(node.ctx, ast.Store):
            yield node.id
        elif isinstance(node, (ast.FunctionDef, ast.ClassDef)):
            yield node.name
        elif isinstance(node, ast.arg):
            yield node.arg


class Form(unittest.TestCase):
    def setUp(self):
        paths = sorted(path for path in FOLDER.iterdir() if path.name != "__pycache__")
        self.texts = {path.name: path.read_text(encoding="utf-8") for path in paths}
        self.trees = {name: ast.parse(text) for name, text in self.texts.items()}

    def nodes(self):
        for name, tree in self.trees.items():
            for node in ast.walk(tree):
                yield name, node

    def test_files(self):
        for name, text in self.texts.items():
            self.assertRegex(name, r"^[a-z0-9_]+\.py$")
            self.assertRegex(text, r"\A[ -~\n]*\Z")
            self.assertLessEqual(len(text.splitlines()), 400, name)
            self.assertLessEqual(max(len(line) for line in text.splitlines()), 120, name)
            self.assertIsNone(WORDS.search(text), name)

    def test_functions_are_short(self):
        for name, node in self.nodes():
            if isinstance(node, ast.FunctionDef):
                self.assertLessEqual(node.end_lineno - node.lineno + 1, 40, (name, node.name))
                self.assertEqual(node.decorator_list, [])

    def test_nothing_left_out_is_used(self):
        for name, node in self.nodes():
            self.assertNotIsInstance(node, LEFT_OUT, (name, getattr(node, "lineno", None)))
            if isinstance(node, ast.ImportFrom):
                self.assertRegex(node.module, r"^waitboard\.")
            if isinstance(node, ast.Assign):
                self.assertEqual(len(node.targets), 1, (name, node.lineno))
            if isinstance(node, (ast.For, ast.While)):
                self.assertEqual(node.orelse, [], (name, node.lineno))

    def test_names(self):
        for name, tree in self.trees.items():
            for bound in bound_names(tree):
                if bound != "__init__":
                    self.assertRegex(bound, r"^[A-Za-z]", name)
                    self.assertFalse(hasattr(builtins, bound), (name, bound))

    def test_only_listed_names_of_pythons_own(self):
        for name, node in self.nodes():
            if isinstance(node, ast.Name) and hasattr(builtins, node.id):
                self.assertIn(node.id, ALLOWED, (name, node.lineno))

    def test_only_listed_methods_of_pythons_own(self):
        own = {bound for tree in self.trees.values() for bound in bound_names(tree)}
        for name, node in self.nodes():
            if isinstance(node, ast.Call) and isinstance(node.func, ast.Attribute):
                self.assertTrue(node.func.attr in METHODS or node.func.attr in own, (name, node.lineno))

    def test_no_name_that_is_not_used(self):
        for name, node in self.nodes():
            used = getattr(node, "id", getattr(node, "attr", getattr(node, "arg", None)))
            self.assertNotIn(used, NOT_USED, (name, getattr(node, "lineno", None)))

    def test_is_beside_none_alone(self):
        for name, node in self.nodes():
            if isinstance(node, ast.Compare) and isinstance(node.ops[0], (ast.Is, ast.IsNot)):
                self.assertIsInstance(node.comparators[0], ast.Constant, (name, node.lineno))

    def test_texts_and_powers(self):
        for name, node in self.nodes():
            self.assertNotIsInstance(node, ast.Pow, name)
            if isinstance(node, ast.Constant):
                self.assertNotIsInstance(node.value, (float, complex, bytes), (name, node.lineno))
                self.assertNotIn("%", str(node.value), (name, node.lineno))

    def test_methods_and_values_of_objects(self):
        methods, values = set(), set()
        for name, node in self.nodes():
            if isinstance(node, ast.ClassDef):
                methods |= methods_of(node) - {"__init__"}
            elif isinstance(node, ast.Attribute) and isinstance(node.ctx, ast.Store):
                values.add(node.attr)
        self.assertEqual(methods & values, set())
        self.assertEqual((methods | values) & OWN_OF_PYTHON, set())


if __name__ == "__main__":
    unittest.main()
