"""What a test can see of the language's rules: files, imports and sizes."""

import ast
import pathlib
import unittest
import warnings

PACKAGE = pathlib.Path(__file__).resolve().parent.parent / "splicedfilms"
LIBRARY = {"heapq", "math", "itertools", "collections"}


class Language(unittest.TestCase):
    def setUp(self):
        self.files = sorted(path for path in PACKAGE.rglob("*") if "__pycache__" not in path.parts)
        self.assertIn(PACKAGE / "__init__.py", self.files)

    def test_files(self):
        for path in self.files:
            self.assertEqual((path.suffix, path.parent), (".py", PACKAGE))
            self.assertEqual(path.name, path.name.lower())

    def test_characters_lines_and_lengths(self):
        for path in self.files:
            text = path.read_bytes().decode("ascii")
            self.assertTrue(all(sign == "\n" or " " <= sign <= "~" for sign in text), path)
            lines = text.split("\n")
            self.assertLessEqual(len(lines), 399, path)
            for line in lines:
                self.assertLessEqual(len(line), 120, path)
                self.assertEqual(line, line.rstrip(), path)

    def test_python_warns_of_nothing(self):
        for path in self.files:
            with warnings.catch_warnings():
                warnings.simplefilter("error")
                compile(path.read_text(), str(path), "exec")

    def test_functions_are_short(self):
        for path in self.files:
            for node in ast.walk(ast.parse(path.read_text())):
                if isinstance(node, ast.FunctionDef):
                    self.assertLessEqual(node.end_lineno - node.lineno + 1, 40, (path, node.name))

    def test_imports_are_of_the_package_or_of_the_library_that_is_let(self):
        for path in self.files:
            for node in ast.walk(ast.parse(path.read_text())):
                self.assertNotIsInstance(node, ast.Import)
                if isinstance(node, ast.ImportFrom):
                    self.assertEqual(node.level, 0)
                    self.assertTrue(node.module.startswith("splicedfilms.") or node.module in LIBRARY, path)
                    self.assertTrue(all(name.name != "*" and name.asname is None for name in node.names), path)


if __name__ == "__main__":
    unittest.main()
