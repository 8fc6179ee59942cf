"""Rules of the language that can be read off the files: folder, imports, sizes, characters."""

import ast
import unittest
from pathlib import Path

FOLDER = Path(__file__).resolve().parent.parent / "lostdesk"
LIBRARY = {"heapq", "math", "itertools", "collections"}


def files():
    """Return the files of the package, without what Python itself puts there."""
    return [path for path in FOLDER.rglob("*") if path.is_file() and path.parent.name != "__pycache__"]


class LanguageTest(unittest.TestCase):
    def test_the_folder_holds_nothing_but_its_files(self):
        self.assertIn(FOLDER / "__init__.py", files())
        for path in files():
            self.assertRegex(path.name, r"\A[a-z0-9_]+\.py\Z")

    def test_characters(self):
        for path in files():
            for number, line in enumerate(path.read_text(encoding="utf-8").split("\n"), 1):
                with self.subTest(file=path.name, line=number):
                    self.assertRegex(line, r"\A[ -~]{0,120}\Z")

    def test_sizes(self):
        for path in files():
            text = path.read_text(encoding="utf-8")
            self.assertLessEqual(len(text.splitlines()), 399, path.name)
            for node in ast.walk(ast.parse(text)):
                if isinstance(node, ast.FunctionDef):
                    self.assertLessEqual(node.end_lineno - node.lineno + 1, 40, f"{path.name} {node.name}")

    def test_imports(self):
        for path in files():
            for node in ast.walk(ast.parse(path.read_text(encoding="utf-8"))):
                self.assertNotIsInstance(node, ast.Import, path.name)
                if isinstance(node, ast.ImportFrom):
                    self.assertEqual(node.level, 0, path.name)
                    self.assertIn(node.module.split(".")[0], LIBRARY | {"lostdesk"}, path.name)
                    if node.module.startswith("lostdesk"):
                        self.assertTrue((FOLDER / f"{node.module.partition('.')[2]}.py").is_file(), path.name)

    def test_strings(self):
        for path in files():
            for node in ast.walk(ast.parse(path.read_text(encoding="utf-8"))):
                if isinstance(node, ast.Constant) and isinstance(node.value, str):
                    self.assertNotIn("%", node.value, path.name)


if __name__ == "__main__":
    unittest.main()
