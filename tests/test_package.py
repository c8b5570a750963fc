"""What the package consists of, and where its interface is defined."""

import ast
import os
import unittest

import cornerhunt

FOLDER = os.path.dirname(os.path.abspath(cornerhunt.__file__))
ROOT = os.path.dirname(FOLDER)

# Each file of the interface: its functions with their arguments, and its classes with their methods.
FUNCTIONS = {
    "folding": {"is_beneath": ["web", "points", "one", "other"]},
    "notes": {"web_lines": ["web"], "web_of": ["lines"]},
}
CLASSES = {
    "errors": {
        "HuntError": [],
        "BadWeb": [],
        "NoPoint": [],
        "BadTie": [],
        "BadCount": [],
        "TooMany": [],
        "BadStanding": [],
        "BadLine": [],
    },
    "webs": {"Web": ["many", "tie", "untie", "is_tied", "ties", "near", "parts"]},
    "folding": {"Folded": ["row", "kernel", "shadow", "refuge"]},
    "hunts": {"Hunt": ["number", "goes", "hides", "start", "game"]},
}


def file_names():
    return sorted(name for name in os.listdir(FOLDER) if name != "__pycache__")


def text_of(name):
    with open(os.path.join(FOLDER, name), encoding="utf-8", newline="") as source:
        return source.read()


def defined(name, kind):
    return {row.name: row for row in ast.parse(text_of(name + ".py")).body if isinstance(row, kind)}


class PackageTest(unittest.TestCase):
    def test_the_package_is_one_folder_at_the_top(self):
        self.assertEqual(FOLDER, os.path.join(ROOT, "cornerhunt"))
        self.assertTrue(os.path.isdir(os.path.join(ROOT, ".ci")))
        self.assertIn("__init__.py", file_names())

    def test_the_package_holds_its_python_files_alone(self):
        for name in file_names():
            with self.subTest(name):
                self.assertTrue(name.endswith(".py"))
                self.assertTrue(os.path.isfile(os.path.join(FOLDER, name)))
                self.assertFalse(name.startswith("test"))

    def test_functions_are_defined_in_their_files(self):
        for name, functions in FUNCTIONS.items():
            for function, arguments in functions.items():
                with self.subTest(name, function=function):
                    self.assertIn(function, defined(name, ast.FunctionDef))
                    found = defined(name, ast.FunctionDef)[function].args.args
                    self.assertEqual([row.arg for row in found], arguments)

    def test_classes_are_defined_in_their_files(self):
        for name, classes in CLASSES.items():
            for known in classes:
                with self.subTest(name, known=known):
                    self.assertIn(known, defined(name, ast.ClassDef))

    def test_methods_are_defined_in_their_classes(self):
        for name, classes in CLASSES.items():
            for known, methods in classes.items():
                body = defined(name, ast.ClassDef)[known].body
                own = [row.name for row in body if isinstance(row, ast.FunctionDef)]
                for method in methods:
                    with self.subTest(name, known=known, method=method):
                        self.assertIn(method, own)


class SizeTest(unittest.TestCase):
    def test_files_and_lines_are_short_and_plain(self):
        for name in file_names():
            with self.subTest(name):
                text = text_of(name)
                self.assertLess(len(text.split("\n")), 400)
                self.assertLessEqual(max(len(line) for line in text.split("\n")), 120)
                self.assertTrue(all(sign == "\n" or " " <= sign <= "~" for sign in text))

    def test_functions_are_short(self):
        for name in file_names():
            for row in ast.walk(ast.parse(text_of(name))):
                if isinstance(row, ast.FunctionDef):
                    with self.subTest(name, function=row.name):
                        self.assertLessEqual(row.end_lineno - row.lineno + 1, 40)


if __name__ == "__main__":
    unittest.main()
