"""Those rules of the Python subset that can be read off the files of the package without much ado."""

import ast
import pathlib
import unittest

PACKAGE = pathlib.Path(__file__).resolve().parent.parent / "sortes"
FILES = sorted(path for path in PACKAGE.rglob("*") if "__pycache__" not in path.parts)


class LanguageTest(unittest.TestCase):
    def test_only_python_files(self):
        self.assertIn(PACKAGE / "__init__.py", FILES)
        for path in FILES:
            self.assertTrue(path.is_dir() or path.suffix == ".py", path)

    def test_characters_and_sizes(self):
        for path in FILES:
            if path.is_file():
                text = path.read_bytes().decode("ascii")
                self.assertTrue(all(c == "\n" or " " <= c <= "~" for c in text), path)
                lines = text.split("\n")
                self.assertLessEqual(len(lines), 399, path)
                self.assertLessEqual(max(len(line) for line in lines), 120, path)

    def test_functions_imports_and_strings(self):
        for path in FILES:
            if path.is_file():
                for node in ast.walk(ast.parse(path.read_text("ascii"))):
                    self.assertNotIsInstance(node, ast.Import, path)
                    if isinstance(node, ast.FunctionDef):
                        self.assertLessEqual(node.end_lineno - node.lineno + 1, 40, (path, node.name))
                    if isinstance(node, ast.ImportFrom):
                        self.assertEqual(node.level, 0, path)
                        allowed = ("sortes", "heapq", "math", "itertools", "collections", "__future__")
                        self.assertIn(node.module.split(".")[0], allowed, path)
                    if isinstance(node, ast.Constant) and isinstance(node.value, str):
                        self.assertNotIn(chr(37), node.value, path)


if __name__ == "__main__":
    unittest.main()
