"""Those rules of ../shared/LANGUAGE.md that are plain to see in the package's files; it has many more."""

import ast
import builtins
import pathlib
import re
import unittest

PACKAGE = pathlib.Path(__file__).resolve().parent.parent / "bothends"

ALLOWED_BUILTINS = set("""
    len range enumerate zip min max sum abs sorted reversed int str bool bytes list tuple dict set frozenset
    isinstance ord repr any all divmod Exception ValueError TypeError KeyError IndexError LookupError
    ZeroDivisionError ArithmeticError OverflowError RuntimeError NotImplementedError AttributeError StopIteration
    NotImplemented
""".split())
BARRED_WORDS = set("""
    type typing typing_extensions enum Enum IntEnum StrEnum Flag IntFlag Generic Protocol ABC ABCMeta namedtuple
    NamedTuple TypedDict TYPE_CHECKING abstractmethod
""".split())
BARRED_STATEMENTS = (
    ast.Global, ast.Import, ast.AsyncFunctionDef, ast.AsyncFor, ast.AsyncWith, ast.Await, ast.Div, ast.MatMult,
)
ALLOWED_METHODS = set("""
    append clear copy count endswith extend find get index insert isalnum isalpha isdigit islower isspace isupper
    items join keys ljust lower lstrip partition pop remove replace reverse rfind rjust rpartition rsplit rstrip
    setdefault split splitlines startswith strip update upper values zfill bit_length add discard
""".split())
TOP_STATEMENTS = (ast.ImportFrom, ast.FunctionDef, ast.ClassDef, ast.Assign)


def sources():
    """Each file of the package with its text and its tree."""
    for path in sorted(PACKAGE.glob("*.py")):
        text = path.read_text(encoding="utf-8")
        yield path, text, ast.parse(text)


def nodes_of(tree, kind):
    """The parts of a tree that are of this kind."""
    return [node for node in ast.walk(tree) if isinstance(node, kind)]


def own_methods():
    """The names of all methods of the package's classes."""
    classes = [node for path, text, tree in sources() for node in nodes_of(tree, ast.ClassDef)]
    return {part.name for node in classes for part in node.body if isinstance(part, ast.FunctionDef)}


def own_fields():
    """The names of all attributes that the package assigns."""
    found = [node for path, text, tree in sources() for node in nodes_of(tree, ast.Attribute)]
    return {node.attr for node in found if isinstance(node.ctx, ast.Store)}


class TestLanguage(unittest.TestCase):
    def test_files_of_the_folder(self):
        for path in PACKAGE.iterdir():
            if path.name != "__pycache__":
                self.assertRegex(path.name, r"^([a-z][a-z0-9_]*|__init__|__main__)\.py$")

    def test_size(self):
        for path, text, tree in sources():
            lines = text.split("\n")
            self.assertLessEqual(len(lines), 400, path.name)
            self.assertLessEqual(max(len(line) for line in lines), 120, path.name)
            for node in nodes_of(tree, ast.FunctionDef):
                self.assertLessEqual(node.end_lineno - node.lineno + 1, 40, node.name)

    def test_characters_and_words(self):
        for path, text, tree in sources():
            self.assertRegex(text, r"\A[\n -~]*\Z", path.name)
            self.assertEqual(BARRED_WORDS & set(re.findall(r"\w+", text)), set(), path.name)
            for node in nodes_of(tree, ast.Constant):
                self.assertFalse(isinstance(node.value, (float, complex)), path.name)
                self.assertFalse(isinstance(node.value, str) and "%" in node.value, path.name)

    def test_statements(self):
        for path, text, tree in sources():
            self.assertEqual(nodes_of(tree, BARRED_STATEMENTS), [], path.name)
            # Behind the docstring.
            for node in tree.body[1:]:
                self.assertIsInstance(node, TOP_STATEMENTS, path.name)

    def test_imports(self):
        for path, text, tree in sources():
            for node in nodes_of(tree, ast.ImportFrom):
                self.assertTrue(node.module.startswith("bothends.") and node.level == 0, path.name)
                self.assertIn(node, tree.body, path.name)
                # The very file that defines the name.
                defined = ast.parse((PACKAGE / (node.module.split(".")[1] + ".py")).read_text(encoding="utf-8")).body
                names = [part.name for part in defined if hasattr(part, "name")]
                names += [part.targets[0].id for part in defined if isinstance(part, ast.Assign)]
                for name in node.names:
                    self.assertIn(name.name, names, path.name)

    def test_names(self):
        for path, text, tree in sources():
            for node in nodes_of(tree, ast.Name):
                if hasattr(builtins, node.id):
                    self.assertIn(node.id, ALLOWED_BUILTINS, path.name)
                    self.assertIsInstance(node.ctx, ast.Load, path.name)
            for node in nodes_of(tree, ast.arg):
                self.assertFalse(hasattr(builtins, node.arg), node.arg)

    def test_local_names(self):
        for path, text, tree in sources():
            taken = {name.name for node in nodes_of(tree, ast.ImportFrom) for name in node.names}
            taken |= {node.name for node in nodes_of(tree, ast.ClassDef)}
            inside = {node.arg for node in nodes_of(tree, ast.arg)}
            inside |= {node.id for node in nodes_of(tree, ast.Name) if isinstance(node.ctx, ast.Store)}
            self.assertEqual(taken & inside, set(), path.name)
            self.assertEqual([name for name in inside if name.startswith("_")], [], path.name)

    def test_methods_and_attributes(self):
        methods, fields = own_methods(), own_fields()
        self.assertEqual(methods & fields, set())
        for kind in [str, int, list, dict, set, bytes, tuple]:
            self.assertEqual((methods - {"__init__"} | fields) & set(dir(kind)), set())
        for path, text, tree in sources():
            for node in nodes_of(tree, ast.Attribute):
                self.assertIn(node.attr, methods | fields | ALLOWED_METHODS, path.name)

    def test_no_generators(self):
        # They are allowed, but under so many conditions that lists do better.
        for path, text, tree in sources():
            self.assertEqual(nodes_of(tree, (ast.GeneratorExp, ast.Yield, ast.YieldFrom)), [], path.name)


if __name__ == "__main__":
    unittest.main()
