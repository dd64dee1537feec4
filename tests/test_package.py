"""What holds for every file of the package: no clock, no chance, no files (point 2), and plain files."""

import ast
import unittest
from pathlib import Path

import patchkept

FOLDER = Path(patchkept.__file__).parent
FILES = sorted(path for path in FOLDER.rglob("*") if path.is_file() and path.suffix != ".pyc")
LIBRARY = {"heapq", "math", "itertools", "collections"}
BUILTINS = {
    "len", "range", "enumerate", "zip", "min", "max", "sum", "abs", "sorted", "reversed", "int", "str", "bool",
    "list", "tuple", "dict", "set", "isinstance", "ord", "repr", "any", "all", "divmod", "map", "iter", "next",
    "Exception", "ValueError", "TypeError", "KeyError", "IndexError", "LookupError", "StopIteration",
}


def tree_of(path):
    return ast.parse(path.read_text(encoding="utf-8"))


def bound_names(tree):
    """The names that a file assigns, defines, imports or takes as parameters."""
    names = set()
    for node in ast.walk(tree):
        if isinstance(node, (ast.FunctionDef, ast.ClassDef)):
            names.add(node.name)
        elif isinstance(node, ast.Name) and not isinstance(node.ctx, ast.Load):
            names.add(node.id)
        elif isinstance(node, ast.arg):
            names.add(node.arg)
        elif isinstance(node, ast.ExceptHandler) and node.name:
            names.add(node.name)
        elif isinstance(node, ast.ImportFrom):
            names.update(alias.asname or alias.name for alias in node.names)
    return names


class Package(unittest.TestCase):
    def test_the_folder_holds_only_program_files(self):
        self.assertIn("__init__.py", [path.name for path in FILES])
        for path in FILES:
            self.assertEqual(path.suffix, ".py", path)
            self.assertFalse(path.name.startswith("test"), path)

    def test_imports_reach_nothing_outside(self):
        for path in FILES:
            for node in ast.walk(tree_of(path)):
                self.assertNotIsInstance(node, ast.Import, path)
                if isinstance(node, ast.ImportFrom):
                    self.assertEqual(node.level, 0, path)
                    self.assertTrue(node.module.startswith("patchkept.") or node.module in LIBRARY, path)

    def test_only_names_without_outside_effects_are_read(self):
        for path in FILES:
            tree = tree_of(path)
            read = {node.id for node in ast.walk(tree) if isinstance(node, ast.Name)}
            self.assertEqual(read - bound_names(tree) - BUILTINS, set(), path)

    def test_files_lines_and_functions_are_short(self):
        for path in FILES:
            text = path.read_text(encoding="utf-8")
            self.assertLessEqual(len(text.splitlines()), 399, path)
            self.assertLessEqual(max([len(line) for line in text.splitlines()]), 120, path)
            for node in ast.walk(ast.parse(text)):
                if isinstance(node, ast.FunctionDef):
                    self.assertLessEqual(node.end_lineno - node.lineno + 1, 40, node.name)

    def test_characters_are_plain(self):
        for path in FILES:
            text = path.read_text(encoding="utf-8")
            odd = {character for character in text if character != "\n" and not " " <= character <= "~"}
            self.assertEqual(odd, set(), path)


if __name__ == "__main__":
    unittest.main()
