"""The package's files keep to the small part of Python that they are to keep to.

Only what a walk over the files can see plainly is looked at.
"""

import ast
import pathlib
import re
import unittest

PACKAGE = pathlib.Path(__file__).resolve().parent.parent / "bridgefile"

STATEMENTS = (ast.Assign, ast.AugAssign, ast.If, ast.While, ast.For, ast.Return, ast.Break, ast.Continue, ast.Pass,
              ast.Raise, ast.Try, ast.Expr, ast.FunctionDef, ast.ClassDef, ast.ImportFrom)
EXPRESSIONS = (ast.Constant, ast.List, ast.Tuple, ast.Dict, ast.BinOp, ast.UnaryOp, ast.BoolOp, ast.Compare,
               ast.IfExp, ast.Call, ast.Attribute, ast.Subscript, ast.Slice, ast.ListComp, ast.JoinedStr,
               ast.FormattedValue, ast.Name, ast.Lambda)
OWN_OF_PYTHON = set(
    "len range enumerate zip min max sum abs sorted reversed int str bool list tuple dict set frozenset isinstance "
    "ord repr any all divmod Exception ValueError KeyError IndexError LookupError ZeroDivisionError".split())
METHODS = set(
    "append clear copy count endswith extend find get index insert isalnum isalpha isdigit islower isspace isupper "
    "items join keys ljust lower lstrip partition pop remove replace reverse rfind rjust rpartition rsplit rstrip "
    "setdefault split splitlines startswith strip update upper values zfill bit_length".split())
WALKED = ("zip", "enumerate", "reversed", "range", "items", "keys", "values")
WALKERS = ("list", "tuple", "dict", "sorted", "sum", "any", "all", "enumerate", "zip", "min", "max")
WORDS_LEFT_OUT = re.compile(
    r"\b(type|typing|typing_extensions|enum|Enum|IntEnum|StrEnum|Flag|IntFlag|Generic|Protocol|ABC|ABCMeta|"
    r"namedtuple|NamedTuple|TypedDict|TYPE_CHECKING|abstractmethod)\b|dataclass|overload|contextmanager")


def sources():
    return {path: path.read_bytes() for path in sorted(PACKAGE.rglob("*.py"))}


class Language(unittest.TestCase):
    def each_node(self, *kinds):
        for path, source in sources().items():
            for node in ast.walk(ast.parse(source)):
                if isinstance(node, kinds):
                    yield path.name, node

    def test_files(self):
        for path in PACKAGE.iterdir():
            if path.name != "__pycache__":
                self.assertRegex(path.name, r"^(__init__|[a-z][a-z0-9_]*)\.py$")
        self.assertIn("__init__.py", [path.name for path in sources()])

    def test_size_and_signs(self):
        for path, source in sources().items():
            self.assertTrue(all(32 <= sign <= 126 or sign == 10 for sign in source), path)
            rows = source.decode().split("\n")
            self.assertLessEqual(len(rows), 400, path)
            self.assertLessEqual(max(len(row) for row in rows), 120, path)
            self.assertIsNone(WORDS_LEFT_OUT.search(source.decode()), path)
        for name, node in self.each_node(ast.FunctionDef):
            self.assertLessEqual(node.end_lineno - node.lineno + 1, 40, (name, node.name))

    def test_statements_and_expressions(self):
        for name, node in self.each_node(ast.stmt):
            self.assertIsInstance(node, STATEMENTS, (name, node.lineno))
            if isinstance(node, ast.Assign):
                self.assertEqual(len(node.targets), 1, (name, node.lineno))
            if isinstance(node, (ast.For, ast.While)):
                self.assertEqual(node.orelse, [], (name, node.lineno))
        for name, node in self.each_node(ast.expr):
            self.assertIsInstance(node, EXPRESSIONS, (name, node.lineno))
            if isinstance(node, ast.Constant):
                self.assertIn(type(node.value), (int, str, bool, type(None)), (name, node.lineno))
            if isinstance(node, ast.BinOp):
                self.assertNotIsInstance(node.op, (ast.Div, ast.MatMult), (name, node.lineno))

    def test_imports_are_the_packages_own_and_of_the_defining_file(self):
        for name, node in self.each_node(ast.ImportFrom):
            self.assertEqual(node.level, 0, (name, node.lineno))
            package, module = node.module.split(".")
            self.assertEqual(package, "bridgefile", (name, node.lineno))
            defined = bound_at_the_top(ast.parse((PACKAGE / f"{module}.py").read_bytes()))
            for drawn in node.names:
                self.assertIsNone(drawn.asname, (name, node.lineno))
                self.assertIn(drawn.name, defined, (name, node.lineno))

    def test_names(self):
        for path, source in sources().items():
            tree = ast.parse(source)
            top = bound_at_the_top(tree)
            self.assertEqual(len(top), len(set(top)), path)
            drawn = [a.name for node in tree.body if isinstance(node, ast.ImportFrom) for a in node.names]
            classes = [node.name for node in tree.body if isinstance(node, ast.ClassDef)]
            for node in ast.walk(tree):
                if isinstance(node, ast.Name) and isinstance(node.ctx, ast.Load):
                    self.assertIn(node.id, OWN_OF_PYTHON | set(top) | set(drawn) | stored(tree), (path, node.lineno))
            for name in stored(tree) | set(top):
                self.assertRegex(name, r"^[A-Za-z][A-Za-z0-9_]*$", path)
                self.assertNotIn(name, dir(__builtins__) if not isinstance(__builtins__, dict) else __builtins__, path)
            for name in stored(tree) - set(top):
                self.assertNotIn(name, drawn + classes, path)

    def test_methods(self):
        own = {node.name for name, node in self.each_node(ast.FunctionDef)}
        for name, node in self.each_node(ast.Call):
            if isinstance(node.func, ast.Attribute):
                self.assertIn(node.func.attr, METHODS | own, (name, node.lineno))

    def test_functions_and_classes_are_plain(self):
        for name, node in self.each_node(ast.FunctionDef, ast.ClassDef):
            self.assertEqual(node.decorator_list, [], (name, node.name))
            if isinstance(node, ast.FunctionDef):
                handed = node.args
                self.assertFalse(handed.vararg or handed.kwarg or handed.kwonlyargs or handed.posonlyargs, node.name)


    def test_the_top_of_a_file_and_the_body_of_a_class(self):
        for path, source in sources().items():
            for row, node in enumerate(ast.parse(source).body):
                let = isinstance(node, (ast.ImportFrom, ast.FunctionDef, ast.ClassDef, ast.Assign))
                self.assertTrue(let or (row == 0 and is_text(node)), (path, node.lineno))
        for name, node in self.each_node(ast.ClassDef):
            for row, inner in enumerate(node.body):
                let = isinstance(inner, ast.FunctionDef)
                self.assertTrue(let or (row == 0 and is_text(inner)), (name, inner.lineno))

    def test_no_annotation(self):
        for name, node in self.each_node(ast.FunctionDef, ast.arg):
            told = node.returns if isinstance(node, ast.FunctionDef) else node.annotation
            self.assertIsNone(told, (name, node.lineno))

    def test_no_two_files_draw_from_one_another(self):
        drawn = {path.stem: set() for path in sources()}
        for name, node in self.each_node(ast.ImportFrom):
            drawn[name.removesuffix(".py")].add(node.module.split(".")[1])
        while drawn:
            free = [stem for stem in drawn if not drawn[stem] & set(drawn)]
            self.assertTrue(free, drawn)
            for stem in free:
                del drawn[stem]

    def test_small_forms(self):
        for name, node in self.each_node(ast.ListComp):
            self.assertEqual(len(node.generators), 1, (name, node.lineno))
            self.assertLessEqual(len(node.generators[0].ifs), 1, (name, node.lineno))
        for name, node in self.each_node(ast.Compare):
            if any(isinstance(op, (ast.Is, ast.IsNot)) for op in node.ops):
                self.assertIsInstance(node.comparators[-1], ast.Constant, (name, node.lineno))
                self.assertIn(node.comparators[-1].value, (None, True, False), (name, node.lineno))
        for name, node in self.each_node(ast.Constant):
            self.assertFalse(isinstance(node.value, str) and "%" in node.value, (name, node.lineno))
        for name, node in self.each_node(ast.Pow):
            self.fail(name)

    def test_what_is_made_to_be_walked_is_walked_at_once(self):
        for path, source in sources().items():
            tree = ast.parse(source)
            walked = [node.iter for node in ast.walk(tree) if isinstance(node, (ast.For, ast.comprehension))]
            for node in ast.walk(tree):
                if isinstance(node, ast.Call) and called(node) in WALKERS:
                    walked += node.args[:1]
            for node in ast.walk(tree):
                if isinstance(node, ast.Call) and called(node) in WALKED:
                    self.assertTrue(any(node is each for each in walked), (path, node.lineno))

    def test_values_of_objects(self):
        own_of_python = {name for kind in (str, int, list, tuple, dict, set, bytes) for name in dir(kind)}
        values = {node.attr for name, node in self.each_node(ast.Attribute) if isinstance(node.ctx, ast.Store)}
        methods = set()
        for name, node in self.each_node(ast.ClassDef):
            methods |= {inner.name for inner in node.body if isinstance(inner, ast.FunctionDef)}
        self.assertEqual(values & own_of_python, set())
        self.assertEqual(methods & own_of_python, {"__init__"})
        self.assertEqual(values & methods, set())


def is_text(node):
    """Whether the statement is a text by itself."""
    return isinstance(node, ast.Expr) and isinstance(node.value, ast.Constant) and isinstance(node.value.value, str)


def called(node):
    """The name of what's called."""
    return node.func.id if isinstance(node.func, ast.Name) else node.func.attr


def bound_at_the_top(tree):
    """The names that a file's top binds, but for imports."""
    names = []
    for node in tree.body:
        if isinstance(node, (ast.FunctionDef, ast.ClassDef)):
            names.append(node.name)
        elif isinstance(node, ast.Assign):
            names.append(node.targets[0].id)
    return names


def stored(tree):
    """Every name that is assigned or handed over somewhere in the file."""
    names = {node.id for node in ast.walk(tree) if isinstance(node, ast.Name) and isinstance(node.ctx, ast.Store)}
    return names | {node.arg for node in ast.walk(tree) if isinstance(node, ast.arg)}
