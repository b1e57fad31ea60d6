"""The form of the package: its files, its interface, its sizes and its imports."""

import ast
import builtins
import importlib
import os
import unittest
import warnings

TOP = os.path.dirname(os.path.dirname(os.path.abspath(__file__)))
PACKAGE = os.path.join(TOP, "sharerules")

# The interface: the names that each file defines.
INTERFACE = {
    "errors": [
        "ShareError", "BadRules", "RefusingRing", "BadRow", "BadQuestion", "BadVersion", "BadText", "BadCommand",
        "TakenRow", "UnknownRow", "TooMany", "NotPlain", "NotSingle", "NotAlike", "NotSteady", "BadGuard",
    ],
    "names": [
        "is_name", "is_relation", "is_object", "is_group", "is_subject", "is_row", "subject_text", "row_text",
        "read_subject", "read_row", "shape", "target",
    ],
    "rules": ["is_rule", "rule_text", "parts"],
    "books": ["are_rules", "find_ring", "Book"],
    "store": ["Store"],
    "grants": ["may", "height", "granted"],
    "checks": ["is_reason", "is_counter", "reason_height", "reason_rows"],
    "reasons": ["first_reason", "first_counter", "answer_with"],
    "lists": ["objects_for", "persons_for", "critical", "effects"],
    "memory": ["Memory", "is_guard", "guarded_write"],
    "ways": [
        "is_plain", "is_single", "is_steady", "least_cut", "separate_reasons", "is_cut", "are_separate", "ground",
        "barrier",
    ],
    "compare": ["are_alike", "parting_way", "equal_table", "layers", "is_table"],
    "console": ["Console"],
    "texts": ["book_text", "store_text", "read_book", "read_store"],
}
# The methods and properties that stand in the body of each class.
METHODS = {
    ("books", "Book"): [
        "__init__", "rules", "kinds", "relations", "allowed", "rule", "places", "__contains__", "hangs", "level",
        "has_row", "__eq__",
    ],
    ("store", "Store"): [
        "__init__", "book", "version", "rows", "__contains__", "__len__", "rows_of", "write", "rows_at", "at", "go_back",
        "same",
    ],
    ("memory", "Memory"): ["__init__", "ask", "found", "known", "stands", "forget"],
    ("console", "Console"): ["__init__", "__call__"],
}


def files():
    return sorted(name for name in os.listdir(PACKAGE) if name != "__pycache__")


def source(name):
    with open(os.path.join(PACKAGE, name), encoding="ascii", newline="") as file:
        return file.read()


class TestForm(unittest.TestCase):
    def test_the_folder_has_nothing_but_files_of_python(self):
        self.assertIn("__init__.py", files())
        for name in files():
            self.assertRegex(name, "^[a-z_]+[.]py$")

    def test_each_name_of_the_interface_is_defined_in_its_file(self):
        for module, names in INTERFACE.items():
            tree = ast.parse(source(module + ".py"))
            defined = [node.name for node in tree.body if isinstance(node, (ast.FunctionDef, ast.ClassDef))]
            for name in names:
                self.assertIn(name, defined)
                self.assertTrue(callable(getattr(importlib.import_module("sharerules." + module), name)))

    def test_each_method_of_the_interface_is_defined_in_its_class(self):
        for (module, name), methods in METHODS.items():
            made = next(node for node in ast.parse(source(module + ".py")).body if getattr(node, "name", "") == name)
            self.assertIsInstance(made, ast.ClassDef)
            defined = [node.name for node in made.body if isinstance(node, ast.FunctionDef)]
            self.assertEqual(sorted(set(defined)), sorted(defined))
            for method in methods:
                self.assertIn(method, defined)

    def test_signs_and_sizes(self):
        for name in files():
            text = source(name)
            self.assertTrue(all(" " <= sign <= "~" or sign == "\n" for sign in text), name)
            lines = text.split("\n")
            self.assertLess(len(lines), 400, name)
            for line in lines:
                self.assertLessEqual(len(line), 120, line)
            for node in ast.walk(ast.parse(text)):
                if isinstance(node, ast.FunctionDef):
                    self.assertLessEqual(node.end_lineno - node.lineno + 1, 40, node.name)

    def test_no_warnings(self):
        with warnings.catch_warnings():
            warnings.simplefilter("error")
            for name in files():
                compile(source(name), name, "exec")

    def test_imports_come_from_the_package_alone(self):
        for name in files():
            for node in ast.walk(ast.parse(source(name))):
                self.assertNotIsInstance(node, ast.Import)
                if isinstance(node, ast.ImportFrom):
                    self.assertEqual(node.level, 0)
                    self.assertTrue(node.module.startswith("sharerules."), node.module)

    def test_what_the_language_leaves_out(self):
        barred = (ast.GeneratorExp, ast.Global, ast.Nonlocal, ast.Div, ast.Mod, ast.AsyncFunctionDef)
        for name in files():
            for node in ast.walk(ast.parse(source(name))):
                self.assertNotIsInstance(node, barred, (name, getattr(node, "lineno", 0)))
                if isinstance(node, ast.Attribute):
                    self.assertNotIn(node.attr, ("sort", "format", "encode", "decode"), (name, node.lineno))
                if isinstance(node, ast.FunctionDef):
                    self.assertIn([ast.unparse(one) for one in node.decorator_list], ([], ["property"]), node.name)
                if isinstance(node, ast.Compare) and isinstance(node.ops[0], (ast.Is, ast.IsNot)):
                    self.assertIn(ast.unparse(node.comparators[0]), ("None", "True", "False"), (name, node.lineno))

    def test_no_two_files_import_from_each_other(self):
        found = {}
        for name in files():
            tree = ast.parse(source(name))
            found["sharerules." + name[:-3]] = [node.module for node in tree.body if isinstance(node, ast.ImportFrom)]

        def leads(first, seen):
            for module in found[first]:
                if module not in seen:
                    seen.add(module)
                    leads(module, seen)
            return seen

        for module in found:
            self.assertNotIn(module, leads(module, set()))

    def test_no_name_of_an_import_is_used_for_anything_else(self):
        for name in files():
            tree = ast.parse(source(name))
            imported = {one.name for node in tree.body if isinstance(node, ast.ImportFrom) for one in node.names}
            bound = {node.id for node in ast.walk(tree) if isinstance(node, ast.Name) and isinstance(node.ctx, ast.Store)}
            bound |= {node.arg for node in ast.walk(tree) if isinstance(node, ast.arg)}
            bound |= {node.name for node in tree.body if isinstance(node, (ast.FunctionDef, ast.ClassDef))}
            self.assertFalse(imported & bound, name)
            # An interactive Python, and doctest, put "_" among the builtins.
            self.assertFalse(bound & set(dir(builtins)) - {"_"}, name)
            used = {node.id for node in ast.walk(tree) if isinstance(node, ast.Name)}
            self.assertEqual(imported - used, set(), name)


if __name__ == "__main__":
    unittest.main()
