"""The form of the package: its files, its interface, its sizes and its imports."""

import ast
import importlib
import os
import unittest
import warnings

TOP = os.path.dirname(os.path.dirname(os.path.abspath(__file__)))
PACKAGE = os.path.join(TOP, "sharerules")

# What has landed of the interface: the names that each file defines.
INTERFACE = {
    "errors": [
        "ShareError", "BadRules", "RefusingRing", "BadRow", "BadQuestion", "BadVersion", "BadText", "BadCommand",
        "TakenRow", "UnknownRow", "TooMany", "NotPlain", "NotSingle", "NotAlike", "NotSteady", "BadGuard",
    ],
    "names": [
        "is_name", "is_relation", "is_object", "is_group", "is_subject", "is_row", "subject_text", "row_text",
        "read_subject", "read_row", "shape", "target",
    ],
    "rules": ["is_rule", "rule_text", "parts"],
}


def files():
    return sorted(name for name in os.listdir(PACKAGE) if name != "__pycache__")


def source(name):
    with open(os.path.join(PACKAGE, name), encoding="ascii", newline="") as file:
        return file.read()


class TestForm(unittest.TestCase):
    def test_the_folder_has_nothing_but_files_of_python(self):
        self.assertIn("__init__.py", files())
        for name in files():
            self.assertRegex(name, "^[a-z_]+[.]py$")

    def test_each_name_of_the_interface_is_defined_in_its_file(self):
        for module, names in INTERFACE.items():
            tree = ast.parse(source(module + ".py"))
            defined = [node.name for node in tree.body if isinstance(node, (ast.FunctionDef, ast.ClassDef))]
            for name in names:
                self.assertIn(name, defined)
                self.assertTrue(callable(getattr(importlib.import_module("sharerules." + module), name)))

    def test_signs_and_sizes(self):
        for name in files():
            text = source(name)
            self.assertTrue(all(" " <= sign <= "~" or sign == "\n" for sign in text), name)
            lines = text.split("\n")
            self.assertLess(len(lines), 400, name)
            for line in lines:
                self.assertLessEqual(len(line), 120, line)
            for node in ast.walk(ast.parse(text)):
                if isinstance(node, ast.FunctionDef):
                    self.assertLessEqual(node.end_lineno - node.lineno + 1, 40, node.name)

    def test_no_warnings(self):
        with warnings.catch_warnings():
            warnings.simplefilter("error")
            for name in files():
                compile(source(name), name, "exec")

    def test_imports_come_from_the_package_alone(self):
        for name in files():
            for node in ast.walk(ast.parse(source(name))):
                self.assertNotIsInstance(node, ast.Import)
                if isinstance(node, ast.ImportFrom):
                    self.assertEqual(node.level, 0)
                    self.assertTrue(node.module.startswith("sharerules."), node.module)


if __name__ == "__main__":
    unittest.main()
