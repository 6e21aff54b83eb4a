"""Rules of the language that every file of the package keeps: sizes, names of classes, what is iterated at once."""

import ast
import pathlib
import unittest

PACKAGE = pathlib.Path(__file__).resolve().parent.parent / "unlikehands"
FILES = sorted(PACKAGE.glob("*.py"))
ITERATED = ("range", "zip", "enumerate", "reversed")
VIEWS = ("items", "keys", "values")
ITERATING = ("list", "tuple", "dict", "sorted", "sum", "any", "all", "enumerate", "zip", "min", "max")


def is_iterated_at_once(parents, node):
    """Whether a call stands behind the "in" of a loop or is the first thing that a builtin goes over."""
    parent = parents[node]
    if isinstance(parent, (ast.For, ast.comprehension)):
        return parent.iter is node
    if not isinstance(parent, ast.Call) or not isinstance(parent.func, ast.Name):
        return False
    if parent.func.id == "zip":
        return True
    is_range = isinstance(node.func, ast.Name) and node.func.id == "range"
    allowed = (*ITERATING, "len", "reversed") if is_range else ITERATING
    return parent.func.id in allowed and parent.args[0] is node


def is_lazy(node):
    """Whether a node is a call of a range, a zip, an enumerate, a reversed or a view of a dict."""
    if not isinstance(node, ast.Call):
        return False
    if isinstance(node.func, ast.Name):
        return node.func.id in ITERATED
    return isinstance(node.func, ast.Attribute) and node.func.attr in VIEWS


class LanguageTest(unittest.TestCase):
    def trees(self):
        for file in FILES:
            yield file.name, ast.parse(file.read_text(encoding="ascii"))

    def test_sizes_and_characters(self):
        for file in FILES:
            text = file.read_text(encoding="ascii")
            lines = text.split("\n")
            self.assertLess(len(lines), 400, file.name)
            self.assertLessEqual(max(len(line) for line in lines), 120, file.name)
            self.assertNotIn("\t", text, file.name)
        for name, tree in self.trees():
            for node in ast.walk(tree):
                if isinstance(node, ast.FunctionDef):
                    self.assertLess(node.end_lineno - node.lineno, 40, (name, node.name))

    def test_the_name_of_a_class_begins_with_a_letter(self):
        for name, tree in self.trees():
            for node in ast.walk(tree):
                if isinstance(node, ast.ClassDef):
                    self.assertTrue(node.name[0].isalpha(), (name, node.name))

    def test_what_is_iterated_is_iterated_at_once(self):
        for name, tree in self.trees():
            parents = {child: node for node in ast.walk(tree) for child in ast.iter_child_nodes(node)}
            for node in ast.walk(tree):
                if is_lazy(node):
                    self.assertTrue(is_iterated_at_once(parents, node), (name, node.lineno))


if __name__ == "__main__":
    unittest.main()
