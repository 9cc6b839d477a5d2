"""Those rules of the language for the package that are plain to check: sizes, signs and names."""

import ast
import builtins
import unittest
from pathlib import Path

PACKAGE = Path(__file__).resolve().parent.parent / "talkmost"
LIBRARY = {"math": {"gcd", "lcm"}, "itertools": {"combinations"}}
BUILTINS = set(
    "len range enumerate zip min max sum abs sorted reversed int str bool list tuple dict set isinstance "
    "ord repr any all divmod Exception ValueError TypeError KeyError IndexError LookupError super "
    "ZeroDivisionError ArithmeticError OverflowError RuntimeError NotImplementedError".split()
)
METHODS = set(
    "append clear copy count endswith extend find get index insert isalnum isalpha isdigit islower isspace "
    "isupper items join keys ljust lower lstrip partition pop remove replace reverse rfind rjust rpartition "
    "rsplit rstrip setdefault split splitlines startswith strip update upper values zfill bit_length add "
    "discard sort".split()
)
FORBIDDEN_NAMES = set(
    "register mro elements open input law version_info with_traceback add_note".split()
)
FORBIDDEN_ATTRIBUTES = set(
    "items keys values pop update append clear extend insert remove reverse setdefault sort args encode decode "
    "hex fromhex format".split()
)
FORBIDDEN_NODES = (
    ast.Div, ast.Global, ast.AsyncFunctionDef, ast.AsyncFor, ast.AsyncWith, ast.Await, ast.Import,
)


def files():
    return sorted(PACKAGE.glob("*.py"))


def trees():
    return {path.stem: ast.parse(path.read_text()) for path in files()}


def defined(tree):
    """The names that a file defines itself."""
    names = set()
    for node in tree.body:
        if isinstance(node, (ast.FunctionDef, ast.ClassDef)):
            names.add(node.name)
        if isinstance(node, ast.Assign):
            names.update(target.id for target in node.targets)
    return names


def imported(tree):
    return [
        (node.module, alias.name)
        for node in tree.body if isinstance(node, ast.ImportFrom) for alias in node.names
    ]


def bound(tree):
    """The parameters and local variables of a file's functions."""
    names = set()
    for function in ast.walk(tree):
        if isinstance(function, ast.FunctionDef):
            names.update(node.arg for node in ast.walk(function) if isinstance(node, ast.arg))
            names.update(
                node.id for node in ast.walk(function)
                if isinstance(node, ast.Name) and isinstance(node.ctx, ast.Store)
            )
    return names


class FormTest(unittest.TestCase):
    def test_the_folder_holds_python_files_alone(self):
        for path in PACKAGE.iterdir():
            self.assertTrue(path.suffix == ".py" or path.name == "__pycache__", path)
        self.assertTrue((PACKAGE / "__init__.py").exists())

    def test_characters_and_rows(self):
        for path in files():
            text = path.read_text()
            self.assertTrue(all(" " <= sign <= "~" or sign == "\n" for sign in text), path)
            self.assertLessEqual(len(text.splitlines()), 399, path)
            for row in text.splitlines():
                self.assertLessEqual(len(row), 120, path)

    def test_functions_are_short(self):
        for name, tree in trees().items():
            for node in ast.walk(tree):
                if isinstance(node, ast.FunctionDef):
                    self.assertLessEqual(node.end_lineno - node.lineno + 1, 40, (name, node.name))
                    self.assertEqual(node.decorator_list, [], (name, node.name))

    def test_imports_name_the_file_that_defines(self):
        all_trees = trees()
        for name, tree in all_trees.items():
            for module, told in imported(tree):
                if module in LIBRARY:
                    self.assertIn(told, LIBRARY[module], name)
                    continue
                package, _, file = module.partition(".")
                self.assertEqual(package, "talkmost", name)
                self.assertIn(told, defined(all_trees[file]), name)

    def test_names_have_one_meaning(self):
        for name, tree in trees().items():
            classes = {node.name for node in tree.body if isinstance(node, ast.ClassDef)}
            taken = {told for module, told in imported(tree)} | classes | set(dir(builtins))
            self.assertEqual(bound(tree) & taken, set(), name)
            self.assertEqual(defined(tree) & set(dir(builtins)), set(), name)
            self.assertEqual((bound(tree) | defined(tree)) & FORBIDDEN_NAMES, set(), name)

    def test_builtins_and_methods(self):
        all_trees = trees()
        own = {
            node.name for tree in all_trees.values() for node in ast.walk(tree)
            if isinstance(node, ast.FunctionDef)
        }
        for name, tree in all_trees.items():
            for node in ast.walk(tree):
                if isinstance(node, ast.Name) and node.id in dir(builtins):
                    self.assertIn(node.id, BUILTINS, name)
                if isinstance(node, ast.Call) and isinstance(node.func, ast.Attribute):
                    self.assertIn(node.func.attr, METHODS | own | {"__init__"}, name)

    def test_attributes(self):
        for name, tree in trees().items():
            for node in ast.walk(tree):
                if isinstance(node, ast.Attribute) and isinstance(node.ctx, ast.Store):
                    self.assertNotIn(node.attr, FORBIDDEN_ATTRIBUTES, name)

    def test_values(self):
        for name, tree in trees().items():
            for node in ast.walk(tree):
                self.assertNotIsInstance(node, FORBIDDEN_NODES, name)
                if isinstance(node, ast.Constant):
                    self.assertNotIsInstance(node.value, (float, complex), name)
                    self.assertNotIn("%", str(node.value), name)
                if isinstance(node, ast.Compare) and isinstance(node.ops[0], (ast.Is, ast.IsNot)):
                    self.assertIn(ast.unparse(node.comparators[0]), ("None", "True", "False"), name)


if __name__ == "__main__":
    unittest.main()
