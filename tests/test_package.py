"""The package as a whole: point 1, and where the interface's names are defined."""

import ast
import inspect
import pathlib
import unittest

import threeroad
from threeroad import errors, paths

FOLDER = pathlib.Path(threeroad.__file__).parent
LIBRARY = ("heapq", "math", "itertools", "collections")
OUTSIDE = ("open", "input", "print", "exec", "eval", "hash", "id")
ERRORS = ("RoadError", "NoPath", "NoFile", "InTheWay", "NoClash", "Clashed", "NoVersion", "SameVersion")
PARAMETERS = {
    paths: {"is_path": ["text"], "above": ["path"], "is_beneath": ["path", "upper"]},
}


def read_trees():
    """The syntax trees of the package's files, by file name."""
    return {file.name: ast.parse(file.read_bytes()) for file in sorted(FOLDER.rglob("*.py"))}


def imported(tree):
    """The modules that a syntax tree imports from."""
    modules = []
    for node in ast.walk(tree):
        if isinstance(node, ast.Import):
            modules.extend(alias.name for alias in node.names)
        if isinstance(node, ast.ImportFrom):
            modules.append("." * node.level + (node.module or ""))
    return modules


class TestPackage(unittest.TestCase):
    def test_only_the_package_and_plain_helpers_are_imported(self):
        for name, tree in read_trees().items():
            for module in imported(tree):
                with self.subTest(file=name, module=module):
                    self.assertIn(module.split(".")[0], ("threeroad",) + LIBRARY)

    def test_no_name_reaches_outside_of_the_program(self):
        for name, tree in read_trees().items():
            used = {node.id for node in ast.walk(tree) if isinstance(node, ast.Name)}
            with self.subTest(file=name):
                self.assertEqual(used & set(OUTSIDE), set())

    def test_functions_stand_in_their_file_with_their_parameters(self):
        for module, functions in PARAMETERS.items():
            for name, wanted in functions.items():
                with self.subTest(name=name):
                    function = getattr(module, name)
                    self.assertEqual(function.__module__, module.__name__)
                    self.assertEqual(list(inspect.signature(function).parameters), wanted)

    def test_parameters_may_be_passed_by_name(self):
        self.assertIs(paths.is_path(text="a/b"), True)
        self.assertEqual(paths.above(path="a/b"), ["a"])
        self.assertIs(paths.is_beneath(upper="a", path="a/b"), True)

    def test_error_classes_stand_in_their_file(self):
        tree = read_trees()["errors.py"]
        defined = [node.name for node in tree.body if isinstance(node, ast.ClassDef)]
        self.assertEqual(sorted(defined), sorted(ERRORS))
        for name in ERRORS:
            with self.subTest(name=name):
                self.assertTrue(inspect.isclass(getattr(errors, name)))


if __name__ == "__main__":
    unittest.main()
