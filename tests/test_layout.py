"""The files of the package: their names, characters and sizes."""

import ast
import unittest
from pathlib import Path

PACKAGE = Path(__file__).resolve().parent.parent / "namedabove"
FILES = sorted(PACKAGE.rglob("*.py"))


class Layout(unittest.TestCase):
    def test_each_folder_is_a_package_of_python_files(self):
        for path in [PACKAGE, *PACKAGE.rglob("*")]:
            if "__pycache__" in path.parts:
                continue
            if path.is_dir():
                self.assertTrue((path / "__init__.py").is_file(), path)
            else:
                self.assertEqual(path.suffix, ".py", path)

    def test_characters_and_lines(self):
        for path in FILES:
            text = path.read_text(encoding="utf-8")
            self.assertEqual({sign for sign in text if sign != "\n" and not " " <= sign <= "~"}, set(), path)
            self.assertLess(len(text.splitlines()), 400, path)
            for line in text.splitlines():
                self.assertLessEqual(len(line), 120, (path, line))

    def test_functions_are_short(self):
        for path in FILES:
            for node in ast.walk(ast.parse(path.read_text(encoding="utf-8"))):
                if isinstance(node, ast.FunctionDef):
                    self.assertLessEqual(node.end_lineno - node.lineno + 1, 40, (path, node.name))

    def test_imports_name_the_package_alone(self):
        for path in FILES:
            for node in ast.walk(ast.parse(path.read_text(encoding="utf-8"))):
                self.assertNotIsInstance(node, ast.Import, path)
                if isinstance(node, ast.ImportFrom):
                    self.assertEqual(node.level, 0, path)
                    self.assertIn(node.module.split(".")[0], ("namedabove", "__future__", "heapq", "math", "itertools"))


if __name__ == "__main__":
    unittest.main()
