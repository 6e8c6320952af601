"""The rules of LANGUAGE.md that are plainly counted: files, signs, sizes and imports."""

import ast
import pathlib
import re
import unittest

PACKAGE = pathlib.Path(__file__).resolve().parent.parent / "ackbits"
LIBRARY = ("heapq", "math", "itertools", "collections")


def files():
    return sorted(path for path in PACKAGE.rglob("*") if "__pycache__" not in path.parts)


class LanguageTest(unittest.TestCase):
    def test_the_folder_holds_only_plainly_named_modules(self):
        self.assertIn(PACKAGE / "__init__.py", files())
        for path in files():
            self.assertTrue(path.is_file() and re.fullmatch("[a-z0-9_]+[.]py", path.name), path)

    def test_signs_and_lines(self):
        for path in files():
            text = path.read_bytes().decode("ascii")
            self.assertIsNone(re.search("[^ -~\n]", text), path)
            lines = text.split("\n")
            self.assertLess(len(lines), 400, path)
            self.assertLessEqual(max(len(line) for line in lines), 120, path)

    def test_functions_are_small_and_undecorated(self):
        for path in files():
            for node in ast.walk(ast.parse(path.read_text())):
                if isinstance(node, ast.FunctionDef):
                    self.assertLessEqual(node.end_lineno - node.lineno, 39, (path, node.name))
                    self.assertEqual(node.decorator_list, [], (path, node.name))

    def test_imports_name_a_file_of_the_package(self):
        for path in files():
            for node in ast.walk(ast.parse(path.read_text())):
                self.assertNotIsInstance(node, ast.Import, path)
                if isinstance(node, ast.ImportFrom) and node.module not in LIBRARY:
                    name = node.module.removeprefix("ackbits.")
                    self.assertTrue((PACKAGE / f"{name}.py").is_file(), (path, node.module))
                    self.assertEqual(node.level, 0, path)
                    self.assertNotIn("*", [alias.name for alias in node.names], path)


if __name__ == "__main__":
    unittest.main()
