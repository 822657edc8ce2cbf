"""The package keeps to its small part of Python, as far as can be seen from the files."""

import ast
import pathlib
import re
import unittest

PACKAGE = pathlib.Path(__file__).resolve().parent.parent / "sixteenbits"

STATEMENTS = (
    ast.Module, ast.Expr, ast.Import, ast.ImportFrom, ast.FunctionDef, ast.ClassDef, ast.Assign, ast.AugAssign,
    ast.If, ast.While, ast.For, ast.Return, ast.Break, ast.Continue, ast.Pass, ast.Raise, ast.Try)
NOT_EXPRESSIONS = (
    ast.SetComp, ast.DictComp, ast.GeneratorExp, ast.NamedExpr, ast.Starred, ast.Await, ast.Yield, ast.YieldFrom,
    ast.Div, ast.MatMult)
WORDS_NOWHERE = re.compile(
    r"\b(type|typing|typing_extensions|enum|Enum|IntEnum|StrEnum|Flag|IntFlag|Generic|Protocol|ABC|ABCMeta|namedtuple|"
    r"NamedTuple|TypedDict|TYPE_CHECKING|abstractmethod)\b|dataclass|overload|contextmanager")
NAMES_NOWHERE = ("register", "mro", "elements", "open", "input", "version_info", "with_traceback", "add_note")
OWN_METHODS = ("__init__", "__eq__", "__repr__", "__str__", "__len__")
PYTHON_NAMES = tuple(
    "len range enumerate zip min max sum abs sorted reversed int str bool list tuple dict set frozenset isinstance "
    "ord repr any all divmod Exception ValueError TypeError KeyError IndexError LookupError ZeroDivisionError "
    "ArithmeticError OverflowError RuntimeError NotImplementedError AttributeError StopIteration".split())
PYTHON_METHODS = tuple(
    "append clear copy count endswith extend find get index insert isalnum isalpha isdigit islower isspace isupper "
    "items join keys ljust lower lstrip partition pop remove replace reverse rfind rjust rpartition rsplit rstrip "
    "setdefault split splitlines startswith strip update upper values zfill bit_length".split())


def files():
    return sorted(path for path in PACKAGE.rglob("*") if path.is_file() and "__pycache__" not in path.parts)


def trees():
    return [(path, ast.parse(path.read_text())) for path in files()]


def bound_names(tree):
    """All names that a file gives a meaning to: defs, classes, parameters, imports, locals."""
    names = []
    for node in ast.walk(tree):
        if isinstance(node, (ast.FunctionDef, ast.ClassDef)):
            names.append(node.name)
        elif isinstance(node, ast.arg):
            names.append(node.arg)
        elif isinstance(node, ast.alias):
            names.append(node.asname or node.name)
        elif isinstance(node, ast.ExceptHandler) and node.name:
            names.append(node.name)
        elif isinstance(node, ast.Name) and isinstance(node.ctx, ast.Store):
            names.append(node.id)
    return names


def top_names(tree):
    """All names that are bound at a file's top but by imports."""
    names = []
    for node in tree.body:
        if isinstance(node, (ast.FunctionDef, ast.ClassDef)):
            names.append(node.name)
        elif isinstance(node, ast.Assign):
            names.append(node.targets[0].id)
    return names


def stored(node):
    return isinstance(node, ast.Name) and isinstance(node.ctx, ast.Store)


class LanguageTest(unittest.TestCase):
    def each_node(self, *kinds):
        for path, tree in trees():
            for node in ast.walk(tree):
                if isinstance(node, kinds):
                    yield node, f"{path.name}:{getattr(node, 'lineno', 0)}"

    def test_files(self):
        self.assertIn(PACKAGE / "__init__.py", files())
        for path in files():
            self.assertRegex(path.name, r"^[a-z0-9_]+\.py$")

    def test_size_and_signs(self):
        for path in files():
            text = path.read_bytes().decode("ascii")
            rows = text.split("\n")
            self.assertLessEqual(len(rows) - 1, 400, path)
            for number, row in enumerate(rows, start=1):
                self.assertLessEqual(len(row), 120, f"{path}:{number}")
                self.assertNotRegex(row, r"[^ -~]", f"{path}:{number}")
                self.assertIsNone(WORDS_NOWHERE.search(row), f"{path}:{number}")

    def test_functions(self):
        for node, where in self.each_node(ast.FunctionDef):
            self.assertLessEqual(node.end_lineno - node.lineno + 1, 40, where)
            self.assertFalse(node.decorator_list, where)
            given = node.args
            self.assertFalse(given.vararg or given.kwarg or given.kwonlyargs or given.posonlyargs, where)
            self.assertIsNone(node.returns, where)
            self.assertFalse([part for part in given.args if part.annotation], where)

    def test_classes(self):
        for node, where in self.each_node(ast.ClassDef):
            self.assertLessEqual(len(node.bases), 1, where)
            self.assertFalse(node.decorator_list or node.keywords, where)

    def test_imports(self):
        for node, where in self.each_node(ast.Import, ast.ImportFrom):
            self.assertIsInstance(node, ast.ImportFrom, where)
            self.assertEqual(node.level, 0, where)
            self.assertEqual(node.module.split(".")[0], "sixteenbits", where)

    def test_no_files_draw_from_one_another(self):
        drawn = {}
        for path, tree in trees():
            drawn[f"sixteenbits.{path.stem}"] = [
                node.module for node in ast.walk(tree) if isinstance(node, ast.ImportFrom)]
        while drawn:
            free = [name for name in drawn if not any(other in drawn for other in drawn[name])]
            self.assertTrue(free, f"in a ring: {sorted(drawn)}")
            for name in free:
                del drawn[name]

    def test_names_are_drawn_from_where_they_are_defined(self):
        defined = {f"sixteenbits.{path.stem}": top_names(tree) for path, tree in trees()}
        for node, where in self.each_node(ast.ImportFrom):
            for part in node.names:
                self.assertIn(part.name, defined[node.module], where)
                self.assertIsNone(part.asname, where)

    def test_the_top_of_a_file(self):
        for path, tree in trees():
            self.assertIsInstance(tree.body[0].value.value, str, path)
            for node in tree.body[1:]:
                where = f"{path.name}:{node.lineno}"
                self.assertIsInstance(node, (ast.ImportFrom, ast.FunctionDef, ast.ClassDef, ast.Assign), where)
                if isinstance(node, ast.Assign):
                    self.assert_plain(node.value, where)
            names = top_names(tree)
            self.assertEqual(len(names), len(set(names)), path)

    def assert_plain(self, value, where):
        """A number, a text, or a list, tuple or dict of these and of functions, with no list or dict within."""
        parts = [value]
        if isinstance(value, (ast.List, ast.Tuple)):
            parts = value.elts
        if isinstance(value, ast.Dict):
            parts = value.keys + value.values
        for part in parts:
            if isinstance(part, ast.UnaryOp) and isinstance(part.op, ast.USub):
                part = part.operand
            self.assertIsInstance(part, (ast.Constant, ast.Name), where)

    def test_is(self):
        for node, where in self.each_node(ast.Compare):
            for operator, other in zip(node.ops, node.comparators):
                if isinstance(operator, (ast.Is, ast.IsNot)):
                    self.assertIn(getattr(other, "value", 0), (None, True, False), where)

    def test_locals_are_not_called_like_imports(self):
        for path, tree in trees():
            drawn = [part.name for node in ast.walk(tree) if isinstance(node, ast.ImportFrom) for part in node.names]
            classes = [node.name for node in tree.body if isinstance(node, ast.ClassDef)]
            for node in ast.walk(tree):
                name = getattr(node, "arg", None) or (node.id if stored(node) else None)
                self.assertNotIn(name, drawn + classes, f"{path.name}:{getattr(node, 'lineno', 0)}")

    def test_statements(self):
        for node, where in self.each_node(ast.stmt):
            self.assertIsInstance(node, STATEMENTS, where)
            if isinstance(node, ast.Assign):
                self.assertEqual(len(node.targets), 1, where)
            if isinstance(node, (ast.For, ast.While)):
                self.assertFalse(node.orelse, where)
            if isinstance(node, ast.Try):
                self.assertFalse(node.finalbody, where)

    def test_expressions(self):
        for node, where in self.each_node(ast.expr, ast.operator):
            self.assertNotIsInstance(node, NOT_EXPRESSIONS, where)
            if isinstance(node, ast.Constant):
                self.assertNotIsInstance(node.value, (float, complex, bytes), where)

    def test_names(self):
        python_own = dir(__builtins__) if not isinstance(__builtins__, dict) else list(__builtins__)
        for path, tree in trees():
            bound = bound_names(tree)
            for name in bound:
                self.assertNotIn(name, NAMES_NOWHERE, path)
                if name not in OWN_METHODS:
                    self.assertNotIn(name, python_own, path)
                    self.assertFalse(name.startswith("_"), f"{path}: {name}")
            for node in ast.walk(tree):
                if isinstance(node, ast.Name) and node.id not in bound:
                    self.assertIn(node.id, PYTHON_NAMES, f"{path}:{node.lineno}")

    def test_methods(self):
        values = [node.attr for node, where in self.each_node(ast.Attribute) if isinstance(node.ctx, ast.Store)]
        methods = [
            part.name for node, where in self.each_node(ast.ClassDef)
            for part in node.body if isinstance(part, ast.FunctionDef)]
        self.assertEqual(set(values) & set(methods), set())
        for node, where in self.each_node(ast.Attribute):
            self.assertNotIn(node.attr, NAMES_NOWHERE, where)
            self.assertIn(node.attr, values + methods + list(PYTHON_METHODS), where)


if __name__ == "__main__":
    unittest.main()
