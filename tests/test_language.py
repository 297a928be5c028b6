"""The package's files against a part of LANGUAGE.md: what a walk through the syntax sees easily.

Looked at, some of them in part: L1 to L8, L10, L12, L14 to L17, L20, L23 to L25, L27. The rest is left to the reader.
"""

import ast
import builtins
import pathlib
import re
import unittest

PACKAGE = pathlib.Path(__file__).resolve().parent.parent / "sameworlds"

STATEMENTS = (
    ast.FunctionDef, ast.ClassDef, ast.Return, ast.Assign, ast.AugAssign, ast.AnnAssign, ast.For, ast.While,
    ast.If, ast.Raise, ast.Try, ast.ImportFrom, ast.Expr, ast.Pass, ast.Break, ast.Continue,
)
EXPRESSIONS = (
    ast.BoolOp, ast.BinOp, ast.UnaryOp, ast.Lambda, ast.IfExp, ast.Dict, ast.Set, ast.ListComp, ast.Compare,
    ast.Call, ast.FormattedValue, ast.JoinedStr, ast.Constant, ast.Attribute, ast.Subscript, ast.Name, ast.List,
    ast.Tuple, ast.Slice,
)
ERRORS = tuple(
    "Exception ValueError TypeError KeyError IndexError LookupError ZeroDivisionError ArithmeticError "
    "OverflowError RuntimeError NotImplementedError AttributeError StopIteration".split()
)
OWN_NAMES = ERRORS + tuple(
    "len range enumerate zip min max sum abs sorted reversed int str bool list tuple dict set frozenset "
    "isinstance ord repr any all divmod".split()
)
METHODS = tuple(
    "append clear copy count endswith extend find get index insert isalnum isalpha isdigit islower isspace "
    "isupper items join keys ljust lower lstrip partition pop remove replace reverse rfind rjust rpartition "
    "rsplit rstrip setdefault split splitlines startswith strip update upper values zfill bit_length".split()
)
SPECIAL_METHODS = ("__init__", "__eq__", "__repr__", "__str__", "__len__")
WORDS = re.compile(
    r"\b(type|typing|typing_extensions|enum|Enum|IntEnum|StrEnum|Flag|IntFlag|Generic|Protocol|ABC|ABCMeta|"
    r"namedtuple|NamedTuple|TypedDict|TYPE_CHECKING|abstractmethod)\b|dataclass|overload|contextmanager"
)
NOT_AS_NAMES = tuple("attrgetter builtins gc importlib methodcaller os sys".split())
WALKED = tuple("zip enumerate reversed range items keys values".split())
WALKERS = tuple("list tuple dict sorted sum any all enumerate zip min max".split())
UNUSED = tuple("register mro elements open input version_info with_traceback add_note format format_map".split())


def files():
    return sorted(path for path in PACKAGE.rglob("*") if "__pycache__" not in path.parts)


def trees():
    return {path: ast.parse(path.read_text("utf-8")) for path in files() if path.suffix == ".py"}


def defined(tree):
    """The names that a file's top defines."""
    found = []
    for row in tree.body:
        if isinstance(row, (ast.FunctionDef, ast.ClassDef)):
            found.append(row.name)
        if isinstance(row, ast.Assign):
            found.extend(target.id for target in row.targets)
    return found


def imported(tree):
    return [alias.name for row in tree.body if isinstance(row, ast.ImportFrom) for alias in row.names]


def own_methods():
    found = []
    for tree in trees().values():
        for each in ast.walk(tree):
            if isinstance(each, ast.ClassDef):
                found.extend(row.name for row in each.body if isinstance(row, ast.FunctionDef))
    return tuple(found)


def bound(node):
    """The names that the node itself gives a meaning to."""
    if isinstance(node, (ast.FunctionDef, ast.ClassDef)):
        return [node.name] if node.name not in SPECIAL_METHODS else []
    if isinstance(node, ast.ExceptHandler):
        return [node.name] if node.name else []
    if isinstance(node, ast.arg):
        return [node.arg]
    return [node.id] if isinstance(node, ast.Name) and isinstance(node.ctx, ast.Store) else []


def singular(value):
    """None, True or False: what `is` may stand beside."""
    return isinstance(value, ast.Constant) and (value.value is None or isinstance(value.value, bool))


def plain(value, functions):
    if isinstance(value, ast.UnaryOp) and isinstance(value.op, ast.USub):
        value = value.operand
    if isinstance(value, ast.Constant):
        return True
    if isinstance(value, (ast.List, ast.Tuple)):
        return all(plain(each, functions) for each in value.elts)
    if isinstance(value, ast.Dict):
        return all(plain(each, functions) for each in value.keys + value.values)
    return isinstance(value, ast.Name) and value.id in functions


def called(node):
    """The name of the function or method that the node calls, or None."""
    if not isinstance(node, ast.Call):
        return None
    return node.func.attr if isinstance(node.func, ast.Attribute) else getattr(node.func, "id", None)


def walked_at_once(tree):
    """What stands where a walk begins: behind the `in` of a loop, or first in a function that walks."""
    found = [node.iter for node in ast.walk(tree) if isinstance(node, (ast.For, ast.comprehension))]
    return found + [node.args[0] for node in ast.walk(tree) if called(node) in WALKERS and node.args]


class Language(unittest.TestCase):
    def for_each_node(self, check):
        for path, tree in trees().items():
            for node in ast.walk(tree):
                with self.subTest(f"{path.name}:{getattr(node, 'lineno', 1)}"):
                    check(node)

    def test_files(self):
        names = [path.name for path in files()]
        self.assertIn("__init__.py", names)
        for path in files():
            with self.subTest(path.name):
                self.assertRegex(path.name, r"\A([a-z][a-z0-9_]*|__init__|__main__)\.py\Z")
                self.assertNotIn(path.stem, vars(builtins))
                self.assertNotRegex(path.stem, r"\A(tests?|testing|test_.*|site|conftest|(site|user)customize)\Z")

    def test_signs_words_and_size(self):
        for path in files():
            text = path.read_text("utf-8")
            with self.subTest(path.name):
                self.assertRegex(text, r"\A[ -~\n]*\Z")
                self.assertIsNone(WORDS.search(text))
                self.assertLessEqual(len(text.splitlines()), 400)
                self.assertLessEqual(max(len(row) for row in text.splitlines()), 120)

    def test_top_of_a_file(self):
        for path, tree in trees().items():
            names = defined(tree) + imported(tree)
            self.assertEqual(len(names), len(set(names)), path.name)
            functions = [row.name for row in tree.body if isinstance(row, ast.FunctionDef)]
            for row in tree.body[1:] if ast.get_docstring(tree) else tree.body:
                with self.subTest(f"{path.name}:{row.lineno}"):
                    self.assertIsInstance(row, (ast.ImportFrom, ast.FunctionDef, ast.ClassDef, ast.Assign))
                    if isinstance(row, ast.Assign):
                        self.assertTrue(plain(row.value, functions))

    def test_imports(self):
        draws = {}
        for path, tree in trees().items():
            draws[path.stem] = []
            for node in ast.walk(tree):
                if isinstance(node, ast.ImportFrom):
                    with self.subTest(f"{path.name}:{node.lineno}"):
                        self.assertIn(node, tree.body)
                        self.assertEqual(node.level, 0)
                        folder, stem = node.module.split(".")
                        self.assertEqual(folder, "sameworlds")
                        source = ast.parse((PACKAGE / f"{stem}.py").read_text("utf-8"))
                        self.assertLessEqual({alias.name for alias in node.names}, set(defined(source)))
                        draws[path.stem].append(stem)
        while draws:
            last = [stem for stem in draws if not set(draws[stem]) & set(draws)]
            self.assertTrue(last, f"drawn in a ring: {sorted(draws)}")
            draws = {stem: draws[stem] for stem in draws if stem not in last}

    def test_statements_and_expressions(self):
        self.for_each_node(self.check_statements_and_expressions)

    def check_statements_and_expressions(self, node):
        if isinstance(node, ast.stmt):
            self.assertIsInstance(node, STATEMENTS)
        if isinstance(node, ast.expr):
            self.assertIsInstance(node, EXPRESSIONS)
        if isinstance(node, ast.Expr):
            self.assertTrue(isinstance(node.value, ast.Call) or isinstance(node.value.value, str))
        if isinstance(node, ast.Assign):
            self.assertEqual(len(node.targets), 1)
        if isinstance(node, (ast.For, ast.While)):
            self.assertEqual(node.orelse, [])
        if isinstance(node, ast.Try):
            self.assertEqual(node.finalbody, [])
        if isinstance(node, ast.ListComp):
            self.assertEqual(len(node.generators), 1)
            self.assertLessEqual(len(node.generators[0].ifs), 1)

    def test_values(self):
        self.for_each_node(self.check_values)

    def check_values(self, node):
        if isinstance(node, ast.Constant):
            self.assertIn(type(node.value), (int, str, bool, type(None)))
        if isinstance(node, ast.BinOp):
            self.assertNotIsInstance(node.op, (ast.Div, ast.MatMult))
            if isinstance(node.op, ast.Pow):
                self.assertIsInstance(node.right, ast.Constant)
        if isinstance(node, ast.FormattedValue):
            self.assertIsInstance(node.value, ast.Name)
            self.assertIsNone(node.format_spec)
        if isinstance(node, ast.Compare) and any(isinstance(op, (ast.Is, ast.IsNot)) for op in node.ops):
            self.assertTrue(any(singular(side) for side in [node.left] + node.comparators))

    def test_functions_and_classes(self):
        self.for_each_node(self.check_functions_and_classes)

    def check_functions_and_classes(self, node):
        if isinstance(node, (ast.FunctionDef, ast.ClassDef)):
            self.assertEqual(node.decorator_list, [])
        if isinstance(node, ast.FunctionDef):
            self.assertLessEqual(node.end_lineno - node.lineno + 1, 40)
            given = node.args
            self.assertFalse(given.vararg or given.kwarg or given.kwonlyargs or given.posonlyargs)
            self.assertTrue(all(plain(value, []) for value in given.defaults))
        if isinstance(node, ast.ClassDef):
            self.assertLessEqual(len(node.bases), 1)
            self.assertEqual(node.keywords, [])
            for row in node.body[1:] if ast.get_docstring(node) else node.body:
                self.assertIsInstance(row, (ast.FunctionDef, ast.Pass))

    def test_names(self):
        self.for_each_node(self.check_names)

    def check_names(self, node):
        if isinstance(node, ast.Name):
            self.assertNotIn(node.id, NOT_AS_NAMES)
        if isinstance(node, ast.Attribute) and node.attr != "__init__":
            self.assertRegex(node.attr, r"\A[A-Za-z][A-Za-z0-9_]*\Z")
        if isinstance(node, ast.Name) and node.id in vars(builtins):
            self.assertIn(node.id, OWN_NAMES)
        for name in bound(node):
            self.assertRegex(name, r"\A[A-Za-z][A-Za-z0-9_]*\Z")
            self.assertNotIn(name, UNUSED)
            if not isinstance(node, ast.FunctionDef):
                self.assertNotIn(name, vars(builtins))

    def test_locals_are_not_called_like_classes_and_imports(self):
        for path, tree in trees().items():
            classes = [row.name for row in tree.body if isinstance(row, ast.ClassDef)]
            for row in tree.body:
                if isinstance(row, (ast.FunctionDef, ast.ClassDef)):
                    names = [name for node in ast.walk(row) if node != row for name in bound(node)]
                    self.assertEqual(set(names) & set(classes + imported(tree)), set(), f"{path.name}:{row.lineno}")

    def test_walked_at_once(self):
        for path, tree in trees().items():
            places = walked_at_once(tree)
            for node in ast.walk(tree):
                with self.subTest(f"{path.name}:{getattr(node, 'lineno', 1)}"):
                    if called(node) in WALKED:
                        self.assertIn(node, places)
                    # Stricter than L24: the package needs no set.
                    self.assertNotIsInstance(node, ast.Set)
                    self.assertNotIn(called(node), ("set", "frozenset"))

    def test_methods(self):
        allowed = METHODS + own_methods()
        for path, tree in trees().items():
            for node in ast.walk(tree):
                if isinstance(node, ast.Attribute):
                    self.assertNotIn(node.attr, UNUSED, f"{path.name}:{node.lineno}")
                if isinstance(node, ast.Call) and isinstance(node.func, ast.Attribute):
                    self.assertIn(node.func.attr, allowed, f"{path.name}:{node.lineno}")


if __name__ == "__main__":
    unittest.main()
