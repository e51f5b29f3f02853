"""The package keeps to its part of Python: the rules of LANGUAGE.md that a walk over the code can tell."""

import ast
import builtins
import pathlib
import re
import unittest

PACKAGE = pathlib.Path(__file__).resolve().parent.parent / "stagemasters"
FILES = sorted(path for path in PACKAGE.rglob("*") if path.is_file() and "__pycache__" not in path.parts)
TREES = {path.name: ast.parse(path.read_text(encoding="utf-8")) for path in FILES if path.suffix == ".py"}

STATEMENTS = (
    ast.FunctionDef, ast.ClassDef, ast.Return, ast.Assign, ast.AugAssign, ast.For, ast.While, ast.If, ast.Raise,
    ast.Try, ast.ImportFrom, ast.Expr, ast.Pass, ast.Break, ast.Continue,
)
EXPRESSIONS = (
    ast.BoolOp, ast.BinOp, ast.UnaryOp, ast.Lambda, ast.IfExp, ast.Dict, ast.ListComp, ast.Compare, ast.Call,
    ast.JoinedStr, ast.FormattedValue, ast.Constant, ast.Attribute, ast.Subscript, ast.Name, ast.List, ast.Tuple,
    ast.Slice,
)
ERRORS = (
    "Exception ValueError TypeError KeyError IndexError LookupError ZeroDivisionError ArithmeticError OverflowError"
    " RuntimeError NotImplementedError AttributeError StopIteration"
).split()
OWN_NAMES = ERRORS + (
    "len range enumerate zip min max sum abs sorted reversed int str bool list tuple dict set frozenset isinstance ord"
    " repr any all divmod"
).split()
METHODS = (
    "append clear copy count endswith extend find get index insert isalnum isalpha isdigit islower isspace isupper"
    " items join keys ljust lower lstrip partition pop remove replace reverse rfind rjust rpartition rsplit rstrip"
    " setdefault split splitlines startswith strip update upper values zfill bit_length"
).split()
DUNDERS = ("__init__", "__eq__", "__repr__", "__str__", "__len__")
NEVER = (
    "register mro elements open input version_info with_traceback add_note attrgetter breakpoint builtins compile"
    " copyright credits delattr dir eval exec exit gc getattr globals hasattr help id importlib license locals"
    " methodcaller os quit setattr super type vars sys"
).split()
NO_WORDS = re.compile(
    r"\b(type|typing|typing_extensions|enum|Enum|IntEnum|StrEnum|Flag|IntFlag|Generic|Protocol|ABC|ABCMeta|namedtuple"
    r"|NamedTuple|TypedDict|TYPE_CHECKING|abstractmethod)\b|dataclass|overload|contextmanager"
)


def nodes(*kinds):
    """Each node of one of these kinds, with the name of its file."""
    return [(name, node) for name, tree in TREES.items() for node in ast.walk(tree) if isinstance(node, kinds)]


def bound_names():
    """Each name that the package binds, with the node that binds it."""
    bound = []
    for name, node in nodes(ast.FunctionDef, ast.ClassDef, ast.arg, ast.Name, ast.ExceptHandler, ast.Attribute):
        if isinstance(node, (ast.Name, ast.Attribute)) and not isinstance(node.ctx, ast.Store):
            continue
        word = getattr(node, "name", None) or getattr(node, "arg", None) or getattr(node, "id", None)
        bound.append((name, word or getattr(node, "attr", None), node))
    return [row for row in bound if row[1] is not None]


class Files(unittest.TestCase):
    def test_only_plain_files_lie_in_the_package(self):
        self.assertIn("__init__.py", TREES)
        for path in FILES:
            self.assertRegex(path.name, r"\A(__init__|[a-z][a-z0-9_]*)\.py\Z")
            self.assertNotIn(path.stem, ("test", "tests", "testing", "site", "conftest") + tuple(dir(builtins)))
            self.assertFalse(path.stem.startswith("test_"))

    def test_signs_words_and_size(self):
        for path in FILES:
            text = path.read_text(encoding="utf-8")
            self.assertRegex(text, r"\A[ -~\n]*\Z", path.name)
            self.assertIsNone(NO_WORDS.search(text), path.name)
            rows = text.split("\n")
            self.assertLessEqual(len(rows), 400, path.name)
            self.assertLessEqual(max(len(row) for row in rows), 120, path.name)
        for name, node in nodes(ast.FunctionDef):
            self.assertLessEqual(node.end_lineno - node.lineno + 1, 40, (name, node.name))


class Top(unittest.TestCase):
    def test_imports_are_the_packages_own_and_from_the_file_that_defines(self):
        drawn = {name: [] for name in TREES}
        for name, node in nodes(ast.Import, ast.ImportFrom):
            self.assertIsInstance(node, ast.ImportFrom, name)
            self.assertEqual((node.level, node.module.split(".")[0]), (0, "stagemasters"), name)
            source = node.module.split(".")[1] + ".py"
            drawn[name].append(source)
            defined = [word for file, word, row in bound_names() if file == source and row.col_offset == 0]
            for alias in node.names:
                self.assertIn(alias.name, defined, name)
                self.assertIsNone(alias.asname, name)
        while drawn:
            ready = [name for name, sources in drawn.items() if not set(sources) & set(drawn)]
            self.assertTrue(ready, f"files draw from one another: {drawn}")
            drawn = {name: sources for name, sources in drawn.items() if name not in ready}

    def test_only_defs_and_plain_values_bound_once(self):
        for name, tree in TREES.items():
            seen = []
            for place, node in enumerate(tree.body):
                if isinstance(node, ast.Assign):
                    ast.literal_eval(node.value)
                    seen.extend(target.id for target in node.targets)
                elif isinstance(node, (ast.FunctionDef, ast.ClassDef)):
                    seen.append(node.name)
                elif isinstance(node, ast.ImportFrom):
                    seen.extend(alias.name for alias in node.names)
                else:
                    self.assertEqual(place, 0, (name, node.lineno))
                    self.assertIsInstance(node.value.value, str, name)
            self.assertEqual(len(seen), len(set(seen)), name)


class Forms(unittest.TestCase):
    def test_statements_and_expressions(self):
        for name, node in nodes(ast.stmt):
            self.assertIsInstance(node, STATEMENTS, (name, node.lineno))
        for name, node in nodes(ast.expr):
            self.assertIsInstance(node, EXPRESSIONS, (name, node.lineno))
        for name, node in nodes(ast.Constant):
            self.assertIn(type(node.value), (int, str, bool, type(None)), (name, node.lineno))
            if isinstance(node.value, str):
                self.assertNotIn("%", node.value, (name, node.lineno))
        for name, node in nodes(ast.Div, ast.MatMult, ast.Pow):
            self.fail((name, node))

    def test_parts_of_statements(self):
        for name, node in nodes(ast.Assign):
            self.assertEqual(len(node.targets), 1, (name, node.lineno))
            self.assertNotIsInstance(node.targets[0], (ast.Tuple, ast.List), (name, node.lineno))
        for name, node in nodes(ast.For, ast.While):
            self.assertEqual(node.orelse, [], (name, node.lineno))
        for name, node in nodes(ast.Try):
            self.assertEqual(node.finalbody, [], (name, node.lineno))
        for name, node in nodes(ast.ListComp):
            self.assertEqual(len(node.generators), 1, (name, node.lineno))
            self.assertLessEqual(len(node.generators[0].ifs), 1, (name, node.lineno))
        for name, node in nodes(ast.Compare):
            if any(isinstance(sign, (ast.Is, ast.IsNot)) for sign in node.ops):
                self.assertIsInstance(node.comparators[-1], ast.Constant, (name, node.lineno))

    def test_functions_and_classes(self):
        for name, node in nodes(ast.FunctionDef):
            self.assertEqual((node.decorator_list, node.returns), ([], None), (name, node.name))
        for name, node in nodes(ast.arguments):
            self.assertEqual((node.vararg, node.kwarg, node.kwonlyargs, node.posonlyargs), (None, None, [], []), name)
        for name, node in nodes(ast.arg):
            self.assertIsNone(node.annotation, (name, node.arg))
        for name, node in nodes(ast.ClassDef):
            self.assertEqual((node.decorator_list, node.keywords), ([], []), (name, node.name))
            self.assertLessEqual(len(node.bases), 1, (name, node.name))
            for row in node.body:
                is_docstring = isinstance(row, ast.Expr) and isinstance(row.value, ast.Constant)
                self.assertTrue(is_docstring or isinstance(row, ast.FunctionDef), (name, node.name))


class Names(unittest.TestCase):
    def test_bound_names_are_plain_and_not_pythons_own(self):
        for name, word, node in bound_names():
            if isinstance(node, ast.FunctionDef) and word in DUNDERS:
                continue
            self.assertRegex(word, r"\A[A-Za-z][A-Za-z0-9_]*\Z", name)
            self.assertNotIn(word, NEVER, name)
            if not isinstance(node, ast.Attribute):
                self.assertNotIn(word, dir(builtins), name)

    def test_pythons_own_names_that_are_read(self):
        for name, node in nodes(ast.Name):
            self.assertNotIn(node.id, NEVER, (name, node.lineno))
            if node.id in dir(builtins):
                self.assertIn(node.id, OWN_NAMES, (name, node.lineno))

    def test_parameters_and_locals_are_not_called_like_a_class_or_an_import(self):
        for name, tree in TREES.items():
            taken = [alias.name for node in tree.body if isinstance(node, ast.ImportFrom) for alias in node.names]
            taken += [node.name for node in tree.body if isinstance(node, ast.ClassDef)]
            for file, word, node in bound_names():
                if file == name and isinstance(node, (ast.arg, ast.Name, ast.ExceptHandler)):
                    self.assertNotIn(word, taken, name)

    def test_values_of_objects_and_methods(self):
        pythons = {word for kind in (str, int, list, dict, set, bytes, tuple) for word in dir(kind)}
        for name, node in nodes(ast.Attribute):
            if isinstance(node.ctx, ast.Store):
                self.assertNotIn(node.attr, pythons, (name, node.lineno))
        values = [node.attr for name, node in nodes(ast.Attribute) if isinstance(node.ctx, ast.Store)]
        for name, node in nodes(ast.Attribute):
            if isinstance(node.ctx, ast.Load) and node.attr not in values:
                self.assertIn(node.attr, METHODS, (name, node.lineno))


if __name__ == "__main__":
    unittest.main()
