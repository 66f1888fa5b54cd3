"""Rules of the language that a test can see in the files of the package (L1, L2, L10, L14)."""

import ast
import unittest
from pathlib import Path

PACKAGE = Path(__file__).resolve().parent.parent / "notetrail"


class Files(unittest.TestCase):
    def files(self):
        rows = sorted(PACKAGE.glob("*.py"))
        self.assertIn("__init__.py", [path.name for path in rows])
        return [(path, path.read_text(encoding="utf-8")) for path in rows]

    def test_the_folder_contains_nothing_else(self):
        for path in PACKAGE.iterdir():
            if path.name != "__pycache__":
                self.assertRegex(path.name, r"\A[a-z0-9_]+\.py\Z")

    def test_characters_and_lines(self):
        for path, text in self.files():
            with self.subTest(path=path.name):
                self.assertLessEqual(len(text.splitlines()), 399)
                self.assertLessEqual(max(map(len, text.splitlines())), 120)
                self.assertRegex(text, r"\A[ -~\n]*\Z")

    def test_functions_have_at_most_40_lines(self):
        for path, text in self.files():
            for node in ast.walk(ast.parse(text)):
                if isinstance(node, ast.FunctionDef):
                    with self.subTest(path=path.name, function=node.name):
                        self.assertLessEqual(node.end_lineno - node.lineno + 1, 40)

    def test_imports(self):
        library = {"heapq", "math", "itertools", "collections"}
        for path, text in self.files():
            for node in ast.walk(ast.parse(text)):
                self.assertNotIsInstance(node, ast.Import)
                if isinstance(node, ast.ImportFrom):
                    with self.subTest(path=path.name, module=node.module):
                        self.assertEqual(node.level, 0)
                        self.assertTrue(node.module.startswith("notetrail.") or node.module in library)
                        self.assertTrue(all(name.asname is None and name.name != "*" for name in node.names))


if __name__ == "__main__":
    unittest.main()
