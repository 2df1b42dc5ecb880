"""Tests of the package's form: what its files hold, and how large they are."""

import ast
import pathlib
import unittest

PACKAGE = pathlib.Path(__file__).resolve().parent.parent / "threadrow"


def sources():
    for path in sorted(PACKAGE.rglob("*.py")):
        yield path.name, path.read_text(encoding="utf-8")


class Form(unittest.TestCase):
    def test_nothing_but_python_files_lies_in_the_package(self):
        others = [path.name for path in PACKAGE.iterdir() if path.suffix != ".py" and path.name != "__pycache__"]
        self.assertEqual(others, [])

    def test_the_package_imports_nothing(self):
        for name, text in sources():
            for node in ast.walk(ast.parse(text)):
                self.assertNotIsInstance(node, (ast.Import, ast.ImportFrom), name)

    def test_signs_and_sizes(self):
        for name, text in sources():
            lines = text.split("\n")
            self.assertTrue(all(sign == "\n" or " " <= sign <= "~" for sign in text), name)
            self.assertLessEqual(max(len(line) for line in lines), 120, name)
            self.assertLessEqual(len(lines), 399, name)
            for node in ast.walk(ast.parse(text)):
                if isinstance(node, ast.FunctionDef):
                    self.assertLessEqual(node.end_lineno - node.lineno + 1, 40, (name, node.name))


if __name__ == "__main__":
    unittest.main()
