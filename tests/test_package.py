"""The shape of the package: what its interface lists, and a few rules of the language (files, imports, sizes, characters)."""

import ast
import doctest
import os
import unittest

TOP = os.path.dirname(os.path.dirname(os.path.abspath(__file__)))
PACKAGE = os.path.join(TOP, "letterheld")

# The functions, and the classes with their methods, that each file must define itself.
FUNCTIONS = {
    "errors.py": [],
    "notation.py": [
        "is_office", "is_thing", "id_of", "maker_of", "format_line", "parse_line", "format_journal", "parse_journal",
        "format_letter", "parse_letter",
    ],
    "net.py": [],
}
CLASSES = {
    "errors.py": {
        name: [] for name in (
            "HeldError", "InvalidLine", "BrokenJournal", "InvalidLetter", "NotHeld", "Frozen", "UnknownThing",
            "InvalidQuantity", "InvalidOffice", "InvalidThings", "NoLetter", "InvalidCommand")
    },
    "notation.py": {},
    "net.py": {"Net": ["letters", "send", "take", "double"]},
}


def package_files():
    return sorted(name for name in os.listdir(PACKAGE) if name != "__pycache__")


def text_of(name):
    with open(os.path.join(PACKAGE, name), "rb") as file:
        return file.read()


class PackageTest(unittest.TestCase):
    def test_only_plain_files(self):
        for name in package_files():
            self.assertRegex(name, "^[a-z0-9_]+[.]py$")
        self.assertIn("__init__.py", package_files())

    def test_characters_and_sizes(self):
        for name in package_files():
            data = text_of(name)
            self.assertEqual([sign for sign in data if sign != 10 and not 32 <= sign <= 126], [], name)
            lines = data.decode("ascii").split("\n")
            self.assertLessEqual(len(lines), 399, name)
            self.assertLessEqual(max(len(line) for line in lines), 120, name)

    def test_functions_are_short(self):
        for name in package_files():
            for node in ast.walk(ast.parse(text_of(name))):
                if isinstance(node, ast.FunctionDef):
                    self.assertLessEqual(node.end_lineno - node.lineno + 1, 40, (name, node.name))

    def test_imports_are_from_the_package(self):
        for name in package_files():
            for node in ast.walk(ast.parse(text_of(name))):
                self.assertNotIsInstance(node, ast.Import, name)
                if isinstance(node, ast.ImportFrom):
                    self.assertEqual((node.level, node.module.split(".")[0]), (0, "letterheld"), name)

    def test_no_floats_and_no_other_statements(self):
        for name in package_files():
            for node in ast.walk(ast.parse(text_of(name))):
                self.assertNotIsInstance(node, (ast.Global, ast.AsyncFunctionDef, ast.Div), name)
                if isinstance(node, ast.Constant):
                    self.assertNotIsInstance(node.value, (float, complex), name)

    def test_the_interface_is_defined_where_it_is_listed(self):
        for name in FUNCTIONS:
            body = ast.parse(text_of(name)).body
            functions = [node.name for node in body if isinstance(node, ast.FunctionDef)]
            classes = {node.name: node for node in body if isinstance(node, ast.ClassDef)}
            for wanted in FUNCTIONS[name]:
                self.assertIn(wanted, functions, name)
            for wanted, methods in CLASSES[name].items():
                self.assertIn(wanted, classes, name)
                found = [node.name for node in classes[wanted].body if isinstance(node, ast.FunctionDef)]
                for method in methods:
                    self.assertIn(method, found, wanted)


class ReadmeTest(unittest.TestCase):
    def test_examples(self):
        failed, tried = doctest.testfile(os.path.join(TOP, "README.md"), module_relative=False)
        self.assertGreater(tried, 0)
        self.assertEqual(failed, 0)


if __name__ == "__main__":
    unittest.main()
