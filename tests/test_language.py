"""Rules of the language of the package that a small test can see."""

import ast
import os
import unittest

PACKAGE = os.path.join(os.path.dirname(os.path.dirname(os.path.abspath(__file__))), "anyworth")
LIBRARY = {"math": {"gcd", "lcm"}}


def package_files():
    """Return the paths of the files of the package."""
    return [
        os.path.join(folder, name)
        for folder, _, names in os.walk(PACKAGE)
        if os.path.basename(folder) != "__pycache__"
        for name in sorted(names)
    ]


def text_of(path):
    with open(path, encoding="utf-8", newline="") as file:
        return file.read()


class LanguageTest(unittest.TestCase):
    def test_only_python_files(self):
        self.assertTrue(package_files())
        for path in package_files():
            self.assertRegex(os.path.basename(path), r"^[a-z0-9_]+\.py$")

    def test_sizes_and_characters(self):
        for path in package_files():
            with self.subTest(path=path):
                lines = text_of(path).split("\n")
                self.assertLessEqual(len(lines), 399)
                for line in lines:
                    self.assertLessEqual(len(line), 120)
                    self.assertTrue(all(" " <= character <= "~" for character in line), line)

    def test_functions_are_short(self):
        for path in package_files():
            for node in ast.walk(ast.parse(text_of(path))):
                if isinstance(node, ast.FunctionDef):
                    with self.subTest(path=path, name=node.name):
                        self.assertLessEqual(node.end_lineno - node.lineno + 1, 40)

    def test_imports_are_from_the_package_or_the_library(self):
        for path in package_files():
            for node in ast.walk(ast.parse(text_of(path))):
                self.assertNotIsInstance(node, ast.Import)
                if isinstance(node, ast.ImportFrom):
                    names = {alias.name for alias in node.names}
                    inside = node.level == 0 and node.module.startswith("anyworth.")
                    self.assertTrue(inside or names <= LIBRARY.get(node.module, set()), node.module)

    def test_what_the_language_leaves_out(self):
        left_out = (ast.Global, ast.AsyncFunctionDef, ast.Div, ast.Await)
        for path in package_files():
            for node in ast.walk(ast.parse(text_of(path))):
                self.assertNotIsInstance(node, left_out)
                if isinstance(node, ast.Constant):
                    self.assertNotIsInstance(node.value, (float, complex))


if __name__ == "__main__":
    unittest.main()
