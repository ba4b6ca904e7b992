"""What can be seen of ../shared/LANGUAGE.md without running the package: its files, sizes, imports and values."""

import ast
import pathlib
import unittest
import warnings

PACKAGE = pathlib.Path(__file__).resolve().parent.parent / "matchlines"
LIBRARY = {"heapq", "math", "itertools", "collections", "__future__"}
FILES = sorted(path for path in PACKAGE.rglob("*") if "__pycache__" not in path.parts)


def trees():
    return [(path, ast.parse(path.read_text(encoding="utf-8"))) for path in FILES if path.suffix == ".py"]


class PackageTest(unittest.TestCase):
    def test_only_python_files(self):
        self.assertIn(PACKAGE / "__init__.py", FILES)
        self.assertEqual([path.name for path in FILES if not path.is_dir() and path.suffix != ".py"], [])

    def test_sizes_and_characters(self):
        for path, _ in trees():
            text = path.read_text(encoding="utf-8")
            lines = text.split("\n")
            self.assertLessEqual(len(lines), 400, path)
            self.assertEqual([line for line in lines if len(line) > 120], [], path)
            self.assertEqual(sorted({sign for sign in text if not " " <= sign <= "~"} - {"\n"}), [], path)

    def test_no_warnings(self):
        with warnings.catch_warnings():
            warnings.simplefilter("error")
            for path, _ in trees():
                compile(path.read_text(encoding="utf-8"), str(path), "exec")

    def test_functions_have_at_most_40_lines(self):
        for path, tree in trees():
            for node in ast.walk(tree):
                if isinstance(node, ast.FunctionDef):
                    self.assertLessEqual(node.end_lineno - node.lineno + 1, 40, (path, node.name))

    def test_imports(self):
        for path, tree in trees():
            for node in ast.walk(tree):
                self.assertNotIsInstance(node, ast.Import, path)
                if isinstance(node, ast.ImportFrom):
                    self.assertEqual(node.level, 0, path)
                    self.assertTrue(node.module in LIBRARY or node.module.startswith("matchlines."), (path, node.module))

    def test_no_floats_and_no_true_division(self):
        for path, tree in trees():
            for node in ast.walk(tree):
                self.assertNotIsInstance(node, ast.Div, path)
                if isinstance(node, ast.Constant):
                    self.assertNotIsInstance(node.value, (float, complex), (path, node.value))


if __name__ == "__main__":
    unittest.main()
