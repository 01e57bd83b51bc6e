"""Those rules of the language of the package that a program can see easily."""

import ast
import builtins
import re
import unittest
from pathlib import Path

FOLDER = Path(__file__).resolve().parent.parent / "drawloom"

BUILTINS = set("""
    len range enumerate zip min max sum abs sorted reversed int str bool list tuple dict set frozenset
    isinstance ord repr any all divmod pow iter next getattr hasattr setattr type super
    Exception ValueError TypeError KeyError IndexError LookupError ZeroDivisionError ArithmeticError
    OverflowError RuntimeError NotImplementedError AttributeError StopIteration NotImplemented
""".split())
METHODS = set("""
    append clear copy count endswith extend find get index insert isalnum isalpha isdigit islower
    isspace isupper items join keys ljust lower lstrip partition pop remove replace reverse rfind
    rjust rpartition rsplit rstrip setdefault split splitlines startswith strip update upper values
    zfill bit_length add discard popleft appendleft
""".split())
LIBRARY = {"heapq", "math", "itertools", "collections"}
NOT_THERE = (
    ast.AsyncFunctionDef, ast.AsyncFor, ast.AsyncWith, ast.Await, ast.Global, ast.Import, ast.Div,
)
BARRED = re.compile(
    r"\b(type|typing|typing_extensions|enum|Enum|IntEnum|StrEnum|Flag|IntFlag|Generic|Protocol|ABC"
    r"|ABCMeta|namedtuple|NamedTuple|TypedDict|TYPE_CHECKING|abstractmethod)\b"
    r"|dataclass|overload|contextmanager"
)
UNUSED_NAMES = set("""
    register mro elements open input law version_info with_traceback add_note attrgetter breakpoint
    builtins compile copyright credits delattr dir eval exec exit gc globals help id importlib license
    locals methodcaller os quit vars sys
""".split())


def named(tree):
    """Yield each name that a file gives a meaning, with its line."""
    for node in ast.walk(tree):
        if isinstance(node, (ast.FunctionDef, ast.ClassDef)):
            yield node.name, node.lineno
        elif isinstance(node, ast.arg):
            yield node.arg, node.lineno
        elif isinstance(node, ast.Name) and isinstance(node.ctx, ast.Store):
            yield node.id, node.lineno
        elif isinstance(node, ast.alias):
            yield node.asname or node.name, node.lineno


def methods(tree):
    """Yield the definitions of all methods of a file."""
    for node in ast.walk(tree):
        if isinstance(node, ast.ClassDef):
            for inner in node.body:
                if isinstance(inner, ast.FunctionDef):
                    yield inner


def bound_at_top(tree):
    """Return the list of the names that the statements at module level bind."""
    found = []
    for node in tree.body:
        if isinstance(node, (ast.FunctionDef, ast.ClassDef)):
            found.append(node.name)
        elif isinstance(node, ast.Assign):
            found.extend(target.id for target in node.targets)
        elif isinstance(node, ast.ImportFrom):
            found.extend(alias.name for alias in node.names)
    return found


class LanguageTest(unittest.TestCase):
    def setUp(self):
        self.files = {path: path.read_text(encoding="ascii") for path in sorted(FOLDER.rglob("*.py"))}
        self.trees = {path: ast.parse(text) for path, text in self.files.items()}
        self.own_methods = {row.name for tree in self.trees.values() for row in methods(tree)}

    def walk(self):
        for path, tree in self.trees.items():
            for node in ast.walk(tree):
                yield path.name, node

    def test_files(self):
        for path in FOLDER.rglob("*"):
            if "__pycache__" not in path.parts:
                self.assertEqual(path.suffix, ".py", path)
        self.assertIn(FOLDER / "__init__.py", self.files)
        self.assertLessEqual(len(self.files), 100)

    def test_sizes(self):
        for path, text in self.files.items():
            lines = text.splitlines()
            self.assertLessEqual(len(lines), 399, path.name)
            for number, line in enumerate(lines, 1):
                self.assertLessEqual(len(line), 120, (path.name, number))
            self.assertRegex(text, r"\A[\n -~]*\Z", path.name)
        for name, node in self.walk():
            if isinstance(node, ast.FunctionDef):
                self.assertLessEqual(node.end_lineno - node.lineno + 1, 40, (name, node.name))

    def test_imports(self):
        for name, node in self.walk():
            self.assertNotIsInstance(node, NOT_THERE, (name, getattr(node, "lineno", 0)))
            if isinstance(node, ast.ImportFrom):
                self.assertEqual(node.level, 0, name)
                whole, _, module = node.module.partition(".")
                self.assertTrue(whole in LIBRARY or (whole == "drawloom" and module), (name, node.module))
                self.assertNotIn("*", [alias.name for alias in node.names], name)

    def test_imported_names_are_defined_in_the_named_file(self):
        for name, node in self.walk():
            if isinstance(node, ast.ImportFrom) and node.module.startswith("drawloom."):
                tree = self.trees[FOLDER / (node.module.partition(".")[2] + ".py")]
                defined = bound_at_top(ast.Module(
                    [row for row in tree.body if not isinstance(row, ast.ImportFrom)], []))
                for alias in node.names:
                    self.assertIn(alias.name, defined, name)

    def test_module_level(self):
        for path, tree in self.trees.items():
            self.assertIsNotNone(ast.get_docstring(tree), path.name)
            for node in tree.body[1:]:
                self.assertIsInstance(
                    node, (ast.ImportFrom, ast.FunctionDef, ast.ClassDef, ast.Assign), (path.name, node.lineno))
                if isinstance(node, ast.Assign):
                    self.assertEqual([type(target) for target in node.targets], [ast.Name], path.name)
            names = bound_at_top(tree)
            self.assertEqual(sorted(names), sorted(set(names)), path.name)

    def test_names(self):
        for path, tree in self.trees.items():
            at_top = {
                name for node in tree.body if isinstance(node, (ast.ClassDef, ast.ImportFrom))
                for name in bound_at_top(ast.Module([node], []))
            }
            own = {row.name for row in methods(tree)}
            tops = set(bound_at_top(tree))
            for name, line in named(tree):
                self.assertRegex(name, r"\A(_?[A-Za-z][A-Za-z0-9_]*|_|__[a-z]+__)\Z", (path.name, line))
                self.assertNotIn(name, UNUSED_NAMES, (path.name, line))
                if name not in own:
                    self.assertFalse(hasattr(builtins, name), (path.name, line, name))
                if name not in tops:
                    self.assertNotIn(name, at_top, (path.name, line))

    def test_builtins(self):
        for name, node in self.walk():
            if isinstance(node, ast.Name) and hasattr(builtins, node.id):
                self.assertIn(node.id, BUILTINS, (name, node.lineno))
            if isinstance(node, ast.Constant):
                self.assertNotIsInstance(node.value, (float, complex), name)

    def test_methods_that_are_called(self):
        for name, node in self.walk():
            if isinstance(node, ast.Call) and isinstance(node.func, ast.Attribute):
                self.assertIn(node.func.attr, METHODS | self.own_methods | {"__init__"}, (name, node.lineno))

    def test_identity_is_asked_of_constants_only(self):
        for name, node in self.walk():
            if isinstance(node, ast.Compare):
                for op, other in zip(node.ops, node.comparators):
                    if isinstance(op, (ast.Is, ast.IsNot)):
                        self.assertIsInstance(other, ast.Constant, (name, node.lineno))
                        self.assertIn(other.value, (None, True, False), (name, node.lineno))

    def test_words_that_do_not_occur(self):
        for path, text in self.files.items():
            self.assertNotIn("_wall", text, path.name)
            self.assertNotIn("_WallAttr", text, path.name)
            docs = set()
            for node in ast.walk(self.trees[path]):
                if isinstance(node, (ast.Module, ast.FunctionDef, ast.ClassDef)) and ast.get_docstring(node):
                    docs.add(node.body[0].value)
            for node in ast.walk(self.trees[path]):
                if isinstance(node, ast.Constant) and isinstance(node.value, str) and node not in docs:
                    self.assertNotRegex(node.value, BARRED, (path.name, node.lineno))
                    self.assertNotIn("%", node.value, (path.name, node.lineno))
            for name, line in named(self.trees[path]):
                self.assertNotRegex(name, BARRED, (path.name, line))

    def test_no_decorators_and_no_annotated_names_without_a_value(self):
        for name, node in self.walk():
            if isinstance(node, ast.ClassDef):
                self.assertEqual(node.decorator_list, [], name)
            if isinstance(node, ast.AnnAssign):
                self.assertIsNotNone(node.value, (name, node.lineno))


if __name__ == "__main__":
    unittest.main()
