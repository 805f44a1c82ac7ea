"""Those rules of the program's language that are quickly checked: sizes, characters, words, names and builtins."""

import ast
import builtins
import pathlib
import re
import unittest

PACKAGE = pathlib.Path(__file__).resolve().parent.parent / "chaircarry"
ALLOWED_BUILTINS = """len range enumerate zip min max sum abs sorted reversed int str bool list tuple dict set isinstance
    ord repr any all divmod iter next super property staticmethod classmethod object Exception ValueError TypeError
    KeyError IndexError LookupError ZeroDivisionError ArithmeticError OverflowError RuntimeError NotImplementedError
    AttributeError StopIteration NotImplemented""".split()
BARRED_WORDS = """type typing typing_extensions enum Enum IntEnum StrEnum Flag IntFlag Generic Protocol ABC ABCMeta
    namedtuple NamedTuple TypedDict TYPE_CHECKING abstractmethod""".split()
BARRED_PARTS = ["dataclass", "overload", "contextmanager"]
BARRED_NODES = (
    ast.Global, ast.AsyncFunctionDef, ast.Await, ast.AsyncFor, ast.AsyncWith, ast.Div, ast.Is, ast.IsNot,
)
FUNCTIONS = (ast.FunctionDef, ast.Lambda)


def package_files():
    return sorted(PACKAGE.glob("*.py"))


def bound_names(tree):
    """Yield the names that a file gives to what it defines, with the line of each."""
    for node in ast.walk(tree):
        if isinstance(node, (ast.FunctionDef, ast.ClassDef)):
            yield node.name, node.lineno
        elif isinstance(node, ast.arg):
            yield node.arg, node.lineno
        elif isinstance(node, ast.Name) and isinstance(node.ctx, ast.Store):
            yield node.id, node.lineno


def is_plain_is(node):
    return isinstance(node, ast.Compare) and all(
        isinstance(side, ast.Constant) and side.value in (None, True, False)
        for sign, side in zip(node.ops, node.comparators)
        if isinstance(sign, (ast.Is, ast.IsNot))
    )


class LanguageTest(unittest.TestCase):
    def each_tree(self):
        for path in package_files():
            yield path.name, ast.parse(path.read_text())

    def test_folder(self):
        found = [path.name for path in PACKAGE.iterdir() if path.name != "__pycache__"]
        self.assertIn("__init__.py", found)
        for name in found:
            self.assertRegex(name, r"^[a-z0-9_]+\.py$")

    def test_sizes_and_characters(self):
        for path in package_files():
            text = path.read_text(encoding="utf-8")
            self.assertRegex(text, r"\A[ -~\n]*\Z", path.name)
            lines = text.split("\n")
            self.assertLessEqual(len(lines), 400, path.name)
            self.assertLessEqual(max(len(line) for line in lines), 120, path.name)

    def test_functions_have_at_most_40_lines(self):
        for name, tree in self.each_tree():
            for node in ast.walk(tree):
                if isinstance(node, FUNCTIONS):
                    self.assertLessEqual(node.end_lineno - node.lineno + 1, 40, (name, node.lineno))

    def test_words(self):
        for path in package_files():
            words = re.findall(r"\w+", path.read_text())
            for word in words:
                self.assertNotIn(word, BARRED_WORDS, path.name)
                for part in BARRED_PARTS:
                    self.assertNotIn(part, word, path.name)

    def test_names(self):
        for name, tree in self.each_tree():
            for bound, line in bound_names(tree):
                with self.subTest(file=name, line=line, bound=bound):
                    self.assertTrue(not bound.startswith("_") or re.fullmatch(r"__[a-z]+__", bound))
                    self.assertFalse(bound in vars(builtins) and not bound.startswith("__"))

    def test_imports(self):
        for name, tree in self.each_tree():
            for node in ast.walk(tree):
                self.assertNotIsInstance(node, ast.Import, (name,))
                if isinstance(node, ast.ImportFrom):
                    self.assertRegex(node.module, r"^chaircarry\.[a-z]+$", name)
                    self.assertNotIn("*", [alias.name for alias in node.names], name)

    def test_builtins(self):
        for name, tree in self.each_tree():
            for node in ast.walk(tree):
                if isinstance(node, ast.Name) and node.id in vars(builtins):
                    self.assertIn(node.id, ALLOWED_BUILTINS, (name, node.lineno))

    def test_expressions(self):
        for name, tree in self.each_tree():
            plain = [sign for node in ast.walk(tree) if is_plain_is(node) for sign in node.ops]
            for node in ast.walk(tree):
                if isinstance(node, BARRED_NODES):
                    self.assertTrue(any(node is sign for sign in plain), (name, node))
                if isinstance(node, ast.Constant):
                    self.assertNotIsInstance(node.value, (float, complex), (name, node.lineno))
                    self.assertFalse(isinstance(node.value, str) and "%" in node.value, (name, node.lineno))

    def test_a_name_is_not_a_method_and_an_attribute(self):
        methods, attributes = set(), set()
        for name, tree in self.each_tree():
            for node in ast.walk(tree):
                if isinstance(node, ast.ClassDef):
                    methods.update(part.name for part in node.body if isinstance(part, ast.FunctionDef))
                elif isinstance(node, ast.Attribute) and isinstance(node.ctx, ast.Store):
                    attributes.add(node.attr)
        self.assertEqual(methods & attributes, set())

    def test_a_generator_shares_its_name_with_no_other_function(self):
        generators, functions = [], []
        for name, tree in self.each_tree():
            for node in ast.walk(tree):
                if isinstance(node, ast.FunctionDef):
                    functions.append(node.name)
                    if any(isinstance(part, (ast.Yield, ast.YieldFrom)) for part in ast.walk(node)):
                        generators.append(node.name)
        self.assertEqual(sorted(generators), ["carryings", "planned", "red_counts"])
        for name in generators:
            self.assertEqual(functions.count(name), 1, name)


if __name__ == "__main__":
    unittest.main()
