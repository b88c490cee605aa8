"""The files of the package keep the sizes and the characters that its language allows."""

import ast
import pathlib
import unittest

PACKAGE = pathlib.Path(__file__).resolve().parent.parent / "passproven"
FILES = sorted(PACKAGE.rglob("*.py"))


class Files(unittest.TestCase):
    def test_only_python_files(self):
        self.assertTrue((PACKAGE / "__init__.py").is_file())
        for path in PACKAGE.rglob("*"):
            if path.is_file() and path.parent.name != "__pycache__":
                self.assertEqual(path.suffix, ".py", path)

    def test_lines(self):
        for path in FILES:
            lines = path.read_text("utf-8").split("\n")
            self.assertLessEqual(len(lines), 400, path)
            for line in lines:
                self.assertLessEqual(len(line), 120, path)
                self.assertTrue(all(" " <= sign <= "~" for sign in line), (path, line))

    def test_functions(self):
        for path in FILES:
            for part in ast.walk(ast.parse(path.read_text("utf-8"))):
                if isinstance(part, ast.FunctionDef):
                    self.assertLessEqual(part.end_lineno - part.lineno + 1, 40, (path, part.name))

    def test_imports(self):
        library = ("heapq", "math", "itertools", "collections", "__future__")
        for path in FILES:
            for part in ast.walk(ast.parse(path.read_text("utf-8"))):
                if isinstance(part, ast.Import):
                    self.assertEqual((path.name, [name.name for name in part.names]), ("__main__.py", ["sys"]))
                if isinstance(part, ast.ImportFrom):
                    self.assertTrue(part.module.startswith("passproven.") or part.module in library, (path, part.module))


if __name__ == "__main__":
    unittest.main()
