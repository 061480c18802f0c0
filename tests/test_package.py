"""The package as a whole: point 1, and where the interface's names are defined."""

import ast
import inspect
import pathlib
import unittest

import threeroad
from threeroad import book, errors, joining, paths, trees

FOLDER = pathlib.Path(threeroad.__file__).parent
LIBRARY = ("heapq", "math", "itertools", "collections")
OUTSIDE = ("open", "input", "print", "exec", "eval", "hash", "id")
ERRORS = ("RoadError", "NoPath", "NoFile", "InTheWay", "NoClash", "Clashed", "NoVersion", "SameVersion")
PARAMETERS = {
    paths: {"is_path": ["text"], "above": ["path"], "is_beneath": ["path", "upper"]},
    trees: {"is_tree": ["files"], "done": ["tree", "deed"], "changed": ["tree", "deeds"], "between": ["old", "new"]},
    joining: {"marks": ["elder", "one", "other"], "clashes": ["elder", "one", "other"],
              "joined": ["elder", "one", "other", "picks"]},
}
METHODS = {"many": [], "tree": ["number"], "parents": ["number"], "grow": ["parent", "deeds"],
           "merge": ["one", "other", "picks"], "elders": ["number"], "nearest": ["one", "other"],
           "road": ["elder", "number"], "story": ["number", "path"]}


def read_trees():
    """The syntax trees of the package's files, by file name."""
    return {file.name: ast.parse(file.read_bytes()) for file in sorted(FOLDER.rglob("*.py"))}


def imported(tree):
    """The modules that a syntax tree imports from."""
    modules = []
    for node in ast.walk(tree):
        if isinstance(node, ast.Import):
            modules.extend(alias.name for alias in node.names)
        if isinstance(node, ast.ImportFrom):
            modules.append("." * node.level + (node.module or ""))
    return modules


class TestPackage(unittest.TestCase):
    def test_only_the_package_and_plain_helpers_are_imported(self):
        for name, tree in read_trees().items():
            for module in imported(tree):
                with self.subTest(file=name, module=module):
                    self.assertIn(module.split(".")[0], ("threeroad",) + LIBRARY)

    def test_no_name_reaches_outside_of_the_program(self):
        for name, tree in read_trees().items():
            used = {node.id for node in ast.walk(tree) if isinstance(node, ast.Name)}
            with self.subTest(file=name):
                self.assertEqual(used & set(OUTSIDE), set())

    def test_functions_stand_in_their_file_with_their_parameters(self):
        for module, functions in PARAMETERS.items():
            for name, wanted in functions.items():
                with self.subTest(name=name):
                    function = getattr(module, name)
                    self.assertEqual(function.__module__, module.__name__)
                    self.assertEqual(list(inspect.signature(function).parameters), wanted)

    def test_parameters_may_be_passed_by_name(self):
        self.assertIs(paths.is_path(text="a/b"), True)
        self.assertEqual(paths.above(path="a/b"), ["a"])
        self.assertIs(paths.is_beneath(upper="a", path="a/b"), True)
        self.assertIs(trees.is_tree(files={}), True)
        self.assertEqual(trees.done(deed=("put", "a", "x"), tree={}), {"a": "x"})
        self.assertEqual(trees.changed(deeds=[], tree={}), {})
        self.assertEqual(trees.between(new={"a": "x"}, old={}), [("put", "a", "x")])
        self.assertEqual(joining.marks(other={}, one={"a": "x"}, elder={}), [("a", "one")])
        self.assertEqual(joining.clashes(other={"a": "y"}, one={"a": "x"}, elder={}), [("a",)])
        self.assertEqual(joining.joined(picks={}, other={}, one={"a": "x"}, elder={}), {"a": "x"})

    def test_arguments_of_methods_may_be_passed_by_name(self):
        kept = book.Book()
        self.assertEqual(kept.grow(deeds=[("put", "a", "x")], parent=0), 1)
        self.assertEqual(kept.grow(deeds=[("put", "b", "y")], parent=0), 2)
        self.assertEqual(kept.merge(picks={}, other=2, one=1), 3)
        self.assertEqual(kept.tree(number=3), {"a": "x", "b": "y"})
        self.assertEqual(kept.parents(number=3), (1, 2))
        self.assertEqual(kept.elders(number=1), [0, 1])
        self.assertEqual(kept.nearest(other=2, one=1), 0)
        self.assertEqual(kept.road(number=3, elder=2), [2, 3])
        self.assertEqual(kept.story(path="a", number=3), [1])

    def test_functions_and_methods_are_defined_in_their_files(self):
        files = read_trees()
        for module, functions in PARAMETERS.items():
            body = files[module.__name__.split(".")[1] + ".py"].body
            defined = [node.name for node in body if isinstance(node, ast.FunctionDef)]
            self.assertEqual(set(functions) - set(defined), set())
        bodies = {node.name: node.body for node in files["book.py"].body if isinstance(node, ast.ClassDef)}
        defined = [node.name for node in bodies["Book"] if isinstance(node, ast.FunctionDef)]
        self.assertEqual(set(METHODS) - set(defined), set())

    def test_methods_have_their_parameters(self):
        self.assertEqual(book.Book.__module__, "threeroad.book")
        self.assertEqual(list(inspect.signature(book.Book).parameters), [])
        for name, wanted in METHODS.items():
            with self.subTest(name=name):
                found = list(inspect.signature(getattr(book.Book(), name)).parameters)
                self.assertEqual(found, wanted)

    def test_error_classes_stand_in_their_file(self):
        tree = read_trees()["errors.py"]
        defined = [node.name for node in tree.body if isinstance(node, ast.ClassDef)]
        self.assertEqual(sorted(defined), sorted(ERRORS))
        for name in ERRORS:
            with self.subTest(name=name):
                self.assertTrue(inspect.isclass(getattr(errors, name)))


if __name__ == "__main__":
    unittest.main()
