"""Those rules of ../shared/LANGUAGE.md that are plain to see in the package's files; it has many more."""

import ast
import builtins
import pathlib
import re
import unittest

PACKAGE = pathlib.Path(__file__).resolve().parent.parent / "bothends"

ALLOWED_BUILTINS = set("""
    len range enumerate zip min max sum abs sorted reversed int str bool bytes list tuple dict set frozenset
    isinstance ord repr any all divmod Exception ValueError TypeError KeyError IndexError LookupError
    ZeroDivisionError ArithmeticError OverflowError RuntimeError NotImplementedError AttributeError StopIteration
    NotImplemented
""".split())
BARRED_WORDS = set("""
    type typing typing_extensions enum Enum IntEnum StrEnum Flag IntFlag Generic Protocol ABC ABCMeta namedtuple
    NamedTuple TypedDict TYPE_CHECKING abstractmethod
""".split())
BARRED_STATEMENTS = (
    ast.Global, ast.Import, ast.AsyncFunctionDef, ast.AsyncFor, ast.AsyncWith, ast.Await, ast.Div, ast.MatMult,
)
TOP_STATEMENTS = (ast.ImportFrom, ast.FunctionDef, ast.ClassDef, ast.Assign)


def sources():
    """Each file of the package with its text and its tree."""
    for path in sorted(PACKAGE.glob("*.py")):
        text = path.read_text(encoding="utf-8")
        yield path, text, ast.parse(text)


def nodes_of(tree, kind):
    """The parts of a tree that are of this kind."""
    return [node for node in ast.walk(tree) if isinstance(node, kind)]


class TestLanguage(unittest.TestCase):
    def test_files_of_the_folder(self):
        for path in PACKAGE.iterdir():
            if path.name != "__pycache__":
                self.assertRegex(path.name, r"^([a-z][a-z0-9_]*|__init__|__main__)\.py$")

    def test_size(self):
        for path, text, tree in sources():
            lines = text.split("\n")
            self.assertLessEqual(len(lines), 400, path.name)
            self.assertLessEqual(max(len(line) for line in lines), 120, path.name)
            for node in nodes_of(tree, ast.FunctionDef):
                self.assertLessEqual(node.end_lineno - node.lineno + 1, 40, node.name)

    def test_characters_and_words(self):
        for path, text, tree in sources():
            self.assertRegex(text, r"\A[\n -~]*\Z", path.name)
            self.assertEqual(BARRED_WORDS & set(re.findall(r"\w+", text)), set(), path.name)
            for node in nodes_of(tree, ast.Constant):
                self.assertFalse(isinstance(node.value, (float, complex)), path.name)
                self.assertFalse(isinstance(node.value, str) and "%" in node.value, path.name)

    def test_statements(self):
        for path, text, tree in sources():
            self.assertEqual(nodes_of(tree, BARRED_STATEMENTS), [], path.name)
            # Behind the docstring.
            for node in tree.body[1:]:
                self.assertIsInstance(node, TOP_STATEMENTS, path.name)

    def test_imports(self):
        for path, text, tree in sources():
            for node in nodes_of(tree, ast.ImportFrom):
                self.assertTrue(node.module.startswith("bothends.") and node.level == 0, path.name)
                self.assertIn(node, tree.body, path.name)

    def test_names(self):
        for path, text, tree in sources():
            for node in nodes_of(tree, ast.Name):
                if hasattr(builtins, node.id):
                    self.assertIn(node.id, ALLOWED_BUILTINS, path.name)
                    self.assertIsInstance(node.ctx, ast.Load, path.name)
            for node in nodes_of(tree, ast.arg):
                self.assertFalse(hasattr(builtins, node.arg), node.arg)


if __name__ == "__main__":
    unittest.main()
