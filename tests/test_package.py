"""What holds for every file of the package: no clock, no chance, no files (point 2), and plain files."""

import ast
import unittest
from pathlib import Path

import patchkept

FOLDER = Path(patchkept.__file__).parent
FILES = sorted(path for path in FOLDER.rglob("*") if path.is_file() and path.suffix != ".pyc")
LIBRARY = {"heapq", "math", "itertools", "collections"}
BUILTINS = {
    "len", "range", "enumerate", "zip", "min", "max", "sum", "abs", "sorted", "reversed", "int", "str", "bool",
    "list", "tuple", "dict", "set", "isinstance", "ord", "repr", "any", "all", "divmod", "map", "iter", "next",
    "Exception", "ValueError", "TypeError", "KeyError", "IndexError", "LookupError", "StopIteration",
}


def tree_of(path):
    return ast.parse(path.read_text(encoding="utf-8"))


def bound_names(tree):
    """The names that a file assigns, defines, imports or takes as parameters."""
    names = set()
    for node in ast.walk(tree):
        if isinstance(node, (ast.FunctionDef, ast.ClassDef)):
            names.add(node.name)
        elif isinstance(node, ast.Name) and not isinstance(node.ctx, ast.Load):
            names.add(node.id)
        elif isinstance(node, ast.arg):
            names.add(node.arg)
        elif isinstance(node, ast.ExceptHandler) and node.name:
            names.add(node.name)
        elif isinstance(node, ast.ImportFrom):
            names.update(alias.asname or alias.name for alias in node.names)
    return names


def imports_of(path):
    """The pairs of a module of the package and a name that a file imports from it."""
    nodes = [node for node in ast.walk(tree_of(path)) if isinstance(node, ast.ImportFrom)]
    own = [node for node in nodes if node.module.startswith("patchkept.")]
    return [(node.module.removeprefix("patchkept."), alias.name) for node in own for alias in node.names]


def defined_in(path):
    """The names of the functions, classes and values at the module level of a file."""
    names = []
    for node in tree_of(path).body:
        if isinstance(node, (ast.FunctionDef, ast.ClassDef)):
            names.append(node.name)
        elif isinstance(node, ast.Assign):
            names.append(node.targets[0].id)
    return names


class Package(unittest.TestCase):
    def test_the_folder_holds_only_program_files(self):
        self.assertIn("__init__.py", [path.name for path in FILES])
        for path in FILES:
            self.assertEqual(path.suffix, ".py", path)
            self.assertFalse(path.name.startswith("test"), path)

    def test_imports_reach_nothing_outside(self):
        for path in FILES:
            for node in ast.walk(tree_of(path)):
                self.assertNotIsInstance(node, ast.Import, path)
                if isinstance(node, ast.ImportFrom):
                    self.assertEqual(node.level, 0, path)
                    self.assertTrue(node.module.startswith("patchkept.") or node.module in LIBRARY, path)

    def test_only_names_without_outside_effects_are_read(self):
        for path in FILES:
            tree = tree_of(path)
            read = {node.id for node in ast.walk(tree) if isinstance(node, ast.Name)}
            self.assertEqual(read - bound_names(tree) - BUILTINS, set(), path)

    def test_modules_hold_only_imports_definitions_and_plain_values(self):
        for path in FILES:
            body = tree_of(path).body
            self.assertIsNotNone(ast.get_docstring(tree_of(path)), path)
            for node in body[1:]:
                self.assertIsInstance(node, (ast.ImportFrom, ast.FunctionDef, ast.ClassDef, ast.Assign), path)
                if isinstance(node, ast.Assign):
                    called = [part for part in ast.walk(node) if isinstance(part, ast.Call)]
                    self.assertEqual((len(node.targets), called), (1, []), path)

    def test_tables_are_not_passed_on(self):
        for path in FILES:
            tables = [node.targets[0].id for node in tree_of(path).body
                      if isinstance(node, ast.Assign) and isinstance(node.value, (ast.Dict, ast.List))]
            for node in ast.walk(tree_of(path)):
                passed = node.args if isinstance(node, ast.Call) else [getattr(node, "value", None)]
                if isinstance(node, (ast.Call, ast.Return, ast.Assign)):
                    names = {part.id for part in passed if isinstance(part, ast.Name)}
                    self.assertEqual(names & set(tables), set(), path)

    def test_imports_name_the_defining_file_and_form_no_circle(self):
        reached = {}
        for path in FILES:
            reached[path.stem] = [module for module, _ in imports_of(path)]
            for module, name in imports_of(path):
                self.assertIn(name, defined_in(FOLDER / f"{module}.py"), path)
        while reached:
            free = [stem for stem, modules in reached.items() if not set(modules) & set(reached)]
            self.assertNotEqual(free, [], f"a circle among {sorted(reached)}")
            reached = {stem: modules for stem, modules in reached.items() if stem not in free}

    def test_identity_is_asked_of_none_true_and_false_alone(self):
        for path in FILES:
            for node in ast.walk(tree_of(path)):
                if isinstance(node, ast.Compare) and isinstance(node.ops[0], (ast.Is, ast.IsNot)):
                    asked = node.comparators[0]
                    self.assertTrue(isinstance(asked, ast.Constant) and asked.value in (None, True, False), path)

    def test_files_lines_and_functions_are_short(self):
        for path in FILES:
            text = path.read_text(encoding="utf-8")
            self.assertLessEqual(len(text.splitlines()), 399, path)
            self.assertLessEqual(max([len(line) for line in text.splitlines()]), 120, path)
            for node in ast.walk(ast.parse(text)):
                if isinstance(node, ast.FunctionDef):
                    self.assertLessEqual(node.end_lineno - node.lineno + 1, 40, node.name)

    def test_characters_are_plain(self):
        for path in FILES:
            text = path.read_text(encoding="utf-8")
            odd = {character for character in text if character != "\n" and not " " <= character <= "~"}
            self.assertEqual(odd, set(), path)


if __name__ == "__main__":
    unittest.main()
