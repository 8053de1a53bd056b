"""Promise 1: no clock, chance or files. And the plain rules for the package's folder."""

import ast
import builtins
import os
import unittest

import gradewish

FOLDER = os.path.dirname(os.path.abspath(gradewish.__file__))
# None of these reaches a clock, chance, files or the network.
LIBRARY = ("collections", "heapq", "itertools", "math")
BUILTINS = (
    "ValueError", "KeyError", "abs", "all", "any", "bool", "dict", "divmod", "enumerate", "int", "isinstance",
    "len", "list", "map", "max", "min", "range", "reversed", "set", "sorted", "str", "sum", "tuple", "zip",
)


def files():
    return sorted(name for name in os.listdir(FOLDER) if name != "__pycache__")


def text_of(name):
    with open(os.path.join(FOLDER, name), encoding="utf-8") as file:
        return file.read()


class PackageTest(unittest.TestCase):
    def test_the_folder_holds_plain_py_files_alone(self):
        self.assertIn("__init__.py", files())
        for name in files():
            self.assertRegex(name, r"\A[a-z_0-9]+\.py\Z")

    def test_only_the_package_and_plain_helpers_are_imported(self):
        for name in files():
            for node in ast.walk(ast.parse(text_of(name))):
                self.assertNotIsInstance(node, ast.Import, name)
                if isinstance(node, ast.ImportFrom):
                    self.assertEqual(node.level, 0, name)
                    own = node.module.startswith("gradewish.")
                    self.assertTrue(own or node.module in LIBRARY, (name, node.module))

    def test_no_builtin_is_used_but_these(self):
        for name in files():
            for node in ast.walk(ast.parse(text_of(name))):
                if isinstance(node, ast.Name) and hasattr(builtins, node.id):
                    self.assertIn(node.id, BUILTINS, name)

    def test_sizes_and_characters(self):
        for name in files():
            text = text_of(name)
            self.assertLess(len(text.splitlines()), 400, name)
            for line in text.split("\n"):
                self.assertLessEqual(len(line), 120, name)
                self.assertTrue(all(" " <= sign <= "~" for sign in line), name)
            for node in ast.walk(ast.parse(text)):
                if isinstance(node, ast.FunctionDef):
                    self.assertLessEqual(node.end_lineno - node.lineno + 1, 40, node.name)


if __name__ == "__main__":
    unittest.main()
