"""The rules of the Python subset that can be read off the package's files one by one."""

import ast
import builtins
import pathlib
import re
import unittest

PACKAGE = pathlib.Path(__file__).resolve().parent.parent / "countedsteps"
TEXTS = {path.stem: path.read_text(encoding="utf-8") for path in sorted(PACKAGE.glob("*.py"))}
TREES = {name: ast.parse(text) for name, text in TEXTS.items()}

ALLOWED_BUILTINS = set("""
    len range enumerate zip min max sum abs sorted reversed int str bool bytes list tuple dict set frozenset
    isinstance ord repr any all divmod iter next map super property staticmethod classmethod object NotImplemented
    Exception ValueError TypeError KeyError IndexError LookupError ZeroDivisionError ArithmeticError OverflowError
    RuntimeError NotImplementedError AttributeError StopIteration
""".split())
LIBRARY = {
    "heapq": {"heappush", "heappop", "heapify", "heapreplace", "heappushpop"},
    "math": {"gcd", "lcm", "isqrt", "comb", "perm", "factorial"},
    "itertools": {"product", "combinations", "permutations"},
}
BARRED_WORDS = re.compile(
    r"\b(typing|typing_extensions|enum|Enum|IntEnum|StrEnum|Flag|IntFlag|Generic|Protocol|ABC|ABCMeta|namedtuple"
    r"|NamedTuple|TypedDict|TYPE_CHECKING|abstractmethod)\b|dataclass|overload|contextmanager|\(type\)|Meta"
    r"|metaclass=|_wall\b|_WallAttr")
BARRED_NAMES = set("""
    register mro elements open input law version_info with_traceback add_note attrgetter breakpoint builtins compile
    copyright credits delattr dir eval exec exit gc getattr globals hasattr help id importlib license locals
    methodcaller os quit setattr type vars sys
""".split())
BARRED_NODES = (ast.Global, ast.AsyncFunctionDef, ast.AsyncFor, ast.AsyncWith, ast.Await, ast.Import, ast.Div)
MODULE_LEVEL = (ast.ImportFrom, ast.FunctionDef, ast.ClassDef, ast.Assign)


def is_docstring(node):
    return isinstance(node, ast.Expr) and isinstance(node.value, ast.Constant) and isinstance(node.value.value, str)


def bound_names(tree):
    """All names that the file gives a meaning to, but for methods and attributes."""
    for node in ast.walk(tree):
        if isinstance(node, ast.Name) and not isinstance(node.ctx, ast.Load):
            yield node.id
        elif isinstance(node, ast.arg):
            yield node.arg
        elif isinstance(node, ast.alias):
            yield node.asname or node.name
    for node in tree.body:
        if isinstance(node, (ast.FunctionDef, ast.ClassDef)):
            yield node.name


class Language(unittest.TestCase):
    def test_files(self):
        self.assertIn("__init__", TEXTS)
        for path in PACKAGE.iterdir():
            if path.name != "__pycache__":
                self.assertRegex(path.name, r"^[a-z_][a-z0-9_]*\.py$")

    def test_characters_and_lines(self):
        for name, text in TEXTS.items():
            self.assertRegex(text, r"\A[ -~\n]*\Z", name)
            self.assertLessEqual(len(text.splitlines()), 399, name)
            self.assertLessEqual(max(map(len, text.splitlines())), 120, name)

    def test_words(self):
        for name, text in TEXTS.items():
            self.assertIsNone(BARRED_WORDS.search(text), name)

    def test_sizes_of_functions(self):
        for tree in TREES.values():
            for node in ast.walk(tree):
                if isinstance(node, ast.FunctionDef):
                    self.assertLessEqual(node.end_lineno - node.lineno + 1, 40, node.name)

    def test_module_level(self):
        for name, tree in TREES.items():
            for node in tree.body:
                self.assertTrue(is_docstring(node) or isinstance(node, MODULE_LEVEL), (name, ast.dump(node)))

    def test_imports(self):
        for tree in TREES.values():
            for node in ast.walk(tree):
                if isinstance(node, ast.ImportFrom):
                    self.assertIn(node, tree.body)
                    self.check_import(node)

    def check_import(self, node):
        names = {alias.name for alias in node.names}
        self.assertEqual(node.level, 0)
        if node.module in LIBRARY:
            self.assertLessEqual(names, LIBRARY[node.module])
        else:
            self.assertIn(node.module, ["countedsteps." + name for name in TEXTS])
            self.assertNotIn("*", names)

    def test_no_two_files_import_each_other(self):
        needs = {name: {node.module.rpartition(".")[2] for node in tree.body if isinstance(node, ast.ImportFrom)}
                 for name, tree in TREES.items()}
        while needs:
            free = [name for name in needs if not needs[name] & set(needs)]
            self.assertTrue(free, needs)
            for name in free:
                del needs[name]

    def test_nodes_and_values(self):
        for name, tree in TREES.items():
            for node in ast.walk(tree):
                self.assertNotIsInstance(node, BARRED_NODES, name)
                if isinstance(node, ast.Constant):
                    self.assertNotIsInstance(node.value, (float, complex), name)
                    self.assertFalse(isinstance(node.value, str) and "%" in node.value, name)

    def test_what_classes_with_operators_bar(self):
        for name, tree in TREES.items():
            for node in ast.walk(tree):
                self.assertNotIsInstance(node, ast.GeneratorExp, name)
                self.assertFalse(isinstance(node, ast.AugAssign) and isinstance(node.op, ast.Add), name)

    def test_properties_are_no_methods(self):
        properties, methods = set(), set()
        for tree in TREES.values():
            for node in ast.walk(tree):
                for method in node.body if isinstance(node, ast.ClassDef) else []:
                    if isinstance(method, ast.FunctionDef):
                        marks = [mark.id for mark in method.decorator_list]
                        self.assertIn(marks, [[], ["property"], ["staticmethod"]])
                        (properties if marks == ["property"] else methods).add(method.name)
        self.assertEqual(properties & methods, set())

    def test_names(self):
        taken = set(dir(builtins)) | BARRED_NAMES
        for name, tree in TREES.items():
            bound = set(bound_names(tree))
            self.assertEqual([word for word in bound if word in taken or word.startswith("__")], [], name)
            loaded = {node.id for node in ast.walk(tree) if isinstance(node, ast.Name)}
            self.assertLessEqual(loaded & set(dir(builtins)), ALLOWED_BUILTINS, name)


if __name__ == "__main__":
    unittest.main()
