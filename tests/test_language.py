"""The package's own files keep to the part of Python that LANGUAGE.md tells, as far as a test can see it."""

import ast
import builtins
import pathlib
import re
import unittest

PACKAGE = pathlib.Path(__file__).resolve().parent.parent / "endsolver"
FILES = sorted(PACKAGE.glob("*.py"))

OWN_NAMES = set(
    "len range enumerate zip min max sum abs sorted reversed int str bool list tuple dict set frozenset isinstance ord "
    "repr any all divmod Exception ValueError TypeError KeyError IndexError LookupError ZeroDivisionError "
    "ArithmeticError OverflowError RuntimeError NotImplementedError AttributeError StopIteration".split())
PYTHON_METHODS = set(
    "append clear copy count endswith extend find get index insert isalnum isalpha isdigit islower isspace isupper "
    "items join keys ljust lower lstrip partition pop remove replace reverse rfind rjust rpartition rsplit rstrip "
    "setdefault split splitlines startswith strip update upper values zfill bit_length".split())
PYTHON_ATTRIBUTES = {name for kind in (str, int, list, dict, set, bytes, tuple) for name in dir(kind)}
WORDS_NOT_USED = re.compile(
    r"\b(type|typing|typing_extensions|enum|Enum|IntEnum|StrEnum|Flag|IntFlag|Generic|Protocol|ABC|ABCMeta|namedtuple"
    r"|NamedTuple|TypedDict|TYPE_CHECKING|abstractmethod)\b|dataclass|overload|contextmanager")
NAMES_NOT_USED = set(
    "register mro elements open input version_info with_traceback add_note attrgetter breakpoint builtins compile "
    "copyright credits delattr dir eval exec exit gc getattr globals hasattr help id importlib license locals "
    "methodcaller os quit setattr super type vars sys __name__ chr print".split())
NODES_NOT_USED = (
    ast.With, ast.Match, ast.Delete, ast.Global, ast.Nonlocal, ast.Assert, ast.Yield, ast.YieldFrom,
    ast.AsyncFunctionDef, ast.Await, ast.SetComp, ast.DictComp, ast.GeneratorExp, ast.NamedExpr, ast.Starred,
    ast.Div, ast.MatMult, ast.Import, ast.AnnAssign, ast.Set, ast.Pow)


def plain(node):
    """Whether this is a value that may stand at a file's top."""
    if isinstance(node, ast.Constant):
        return True
    if isinstance(node, ast.Dict):
        return all(plain(part) or isinstance(part, ast.Name) for part in node.keys + node.values)
    if isinstance(node, (ast.Tuple, ast.List)):
        return all(plain(part) or isinstance(part, ast.Name) for part in node.elts)
    return False


class LanguageTest(unittest.TestCase):
    def setUp(self):
        self.texts = {path: path.read_text(encoding="utf-8") for path in FILES}
        self.trees = {path: ast.parse(text) for path, text in self.texts.items()}

    def nodes(self):
        for path, tree in self.trees.items():
            for node in ast.walk(tree):
                yield path.name, node

    def test_files(self):
        self.assertIn(PACKAGE / "__init__.py", FILES)
        others = [path.name for path in PACKAGE.iterdir() if path not in FILES and path.name != "__pycache__"]
        self.assertEqual(others, [])
        for path in FILES:
            self.assertRegex(path.name, r"^[a-z_][a-z0-9_]*\.py$")
            self.assertNotIn(path.stem, dir(builtins))

    def test_signs_and_sizes(self):
        for path, text in self.texts.items():
            self.assertRegex(text, r"\A[ -~\n]*\Z", path.name)
            self.assertLessEqual(len(text.splitlines()), 400, path.name)
            self.assertLessEqual(max(len(row) for row in text.splitlines()), 120, path.name)
            self.assertIsNone(WORDS_NOT_USED.search(text), path.name)
        for name, node in self.nodes():
            if isinstance(node, ast.FunctionDef):
                self.assertLessEqual(node.end_lineno - node.lineno + 1, 40, (name, node.name))

    def test_the_top_of_each_file(self):
        for path, tree in self.trees.items():
            self.assertIsNotNone(ast.get_docstring(tree), path.name)
            for node in tree.body[1:]:
                right = isinstance(node, (ast.ImportFrom, ast.FunctionDef, ast.ClassDef))
                right = right or (isinstance(node, ast.Assign) and plain(node.value))
                self.assertTrue(right, (path.name, node.lineno))

    def test_imports(self):
        drawn = {}
        for name, node in self.nodes():
            if isinstance(node, ast.ImportFrom):
                self.assertRegex(node.module, r"^endsolver\.[a-z]+$", name)
                source = PACKAGE / (node.module.split(".")[1] + ".py")
                defined = {one.name for one in self.trees[source].body if hasattr(one, "name")}
                defined |= {one.targets[0].id for one in self.trees[source].body if isinstance(one, ast.Assign)}
                for alias in node.names:
                    self.assertIn(alias.name, defined)
                    self.assertIsNone(alias.asname)
                drawn.setdefault(name, set()).add(source.name)
        for name in drawn:
            reached, new = set(), set(drawn[name])
            while new:
                reached |= new
                new = {other for one in new for other in drawn.get(one, ())} - reached
            self.assertNotIn(name, reached)
        self.assertNotIn("__init__.py", drawn)

    def test_statements_and_expressions(self):
        for name, node in self.nodes():
            place = (name, getattr(node, "lineno", 0))
            self.assertNotIsInstance(node, NODES_NOT_USED, place)
            if isinstance(node, ast.Assign):
                self.assertEqual(len(node.targets), 1, place)
                self.assertNotIsInstance(node.targets[0], ast.Tuple, place)
            if isinstance(node, (ast.For, ast.While)):
                self.assertEqual(node.orelse, [], place)
            if isinstance(node, ast.Try):
                self.assertEqual(node.finalbody, [], place)
                self.assertTrue(all(one.type is not None for one in node.handlers), place)
            if isinstance(node, ast.ListComp):
                self.assertEqual(len(node.generators), 1, place)
                self.assertLessEqual(len(node.generators[0].ifs), 1, place)
            if isinstance(node, ast.Constant):
                self.assertIn(type(node.value), (int, str, bool, type(None)), place)
            if isinstance(node, ast.Compare) and isinstance(node.ops[0], (ast.Is, ast.IsNot)):
                self.assertIsInstance(node.comparators[0], ast.Constant, place)
            if isinstance(node, (ast.FunctionDef, ast.ClassDef)):
                self.assertEqual(node.decorator_list, [], place)
            if isinstance(node, ast.arguments):
                self.assertIsNone(node.vararg or node.kwarg, place)
                self.assertEqual(node.kwonlyargs + node.posonlyargs, [], place)

    def test_names(self):
        for name, node in self.nodes():
            place = (name, getattr(node, "lineno", 0))
            if isinstance(node, ast.Name):
                self.assertNotIn(node.id, NAMES_NOT_USED, place)
                if node.id in dir(builtins):
                    self.assertIn(node.id, OWN_NAMES, place)
                    self.assertIsInstance(node.ctx, ast.Load, place)
            names = [getattr(node, part, None) for part in ("id", "arg", "name", "attr")]
            for one in [one for one in names if isinstance(one, str) and one != "__init__"]:
                self.assertRegex(one, r"^[A-Za-z][A-Za-z0-9_]*$", place)
                self.assertFalse(isinstance(node, (ast.arg, ast.FunctionDef)) and one in dir(builtins), place)

    def test_methods_and_values(self):
        methods, values = set(), set()
        for name, node in self.nodes():
            if isinstance(node, ast.ClassDef):
                self.assertLessEqual(len(node.bases), 1, name)
                methods |= {one.name for one in node.body if isinstance(one, ast.FunctionDef)}
            if isinstance(node, ast.Attribute) and isinstance(node.ctx, ast.Store):
                values.add(node.attr)
        self.assertEqual(methods & values, set())
        self.assertEqual((methods | values) & PYTHON_ATTRIBUTES, {"__init__"})
        for name, node in self.nodes():
            if isinstance(node, ast.Attribute):
                self.assertIn(node.attr, methods | values | PYTHON_METHODS, (name, node.lineno))
