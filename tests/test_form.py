"""The form of the package, as far as it can be counted: files, lines, signs and imports."""

import ast
import unittest
from pathlib import Path

PACKAGE = Path(__file__).resolve().parent.parent / "lastwill"
FILES = sorted(PACKAGE.rglob("*.py"))


class Form(unittest.TestCase):
    def test_the_folder_holds_only_files_of_python(self):
        others = [path for path in PACKAGE.rglob("*") if path.is_file() and path not in FILES]
        self.assertEqual([path for path in others if path.parent.name != "__pycache__"], [])
        self.assertIn(PACKAGE / "__init__.py", FILES)

    def test_files_and_lines_are_short_and_of_plain_signs(self):
        for path in FILES:
            with self.subTest(path.name):
                text = path.read_text(encoding="utf-8")
                self.assertEqual({sign for sign in text if not " " <= sign <= "~"} - {"\n"}, set())
                self.assertLessEqual(len(text.split("\n")) - 1, 399)
                self.assertLessEqual(max(map(len, text.split("\n"))), 120)

    def test_functions_are_short(self):
        for path in FILES:
            for node in ast.walk(ast.parse(path.read_text(encoding="utf-8"))):
                if isinstance(node, ast.FunctionDef):
                    with self.subTest((path.name, node.name)):
                        self.assertLessEqual(node.end_lineno - node.lineno + 1, 40)

    def test_attributes_are_assigned_through_names(self):
        for path in FILES:
            for node in ast.walk(ast.parse(path.read_text(encoding="utf-8"))):
                if isinstance(node, ast.Attribute) and not isinstance(node.ctx, ast.Load):
                    with self.subTest((path.name, node.lineno)):
                        self.assertIsInstance(node.value, ast.Name)

    def test_imports_are_of_names_of_the_package(self):
        for path in FILES:
            for node in ast.walk(ast.parse(path.read_text(encoding="utf-8"))):
                with self.subTest(path.name):
                    self.assertNotIsInstance(node, ast.Import)
                    if isinstance(node, ast.ImportFrom):
                        self.assertEqual(node.level, 0)
                        self.assertTrue(node.module.startswith("lastwill."))


if __name__ == "__main__":
    unittest.main()
