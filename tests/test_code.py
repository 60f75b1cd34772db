"""What the rules for the code say of files, sizes and characters (L1, L10, L14), and the examples of README.md."""

import ast
import doctest
import pathlib
import unittest

PACKAGE = pathlib.Path(__file__).resolve().parent.parent / "windowtable"
FILES = sorted(path for path in PACKAGE.rglob("*") if path.is_file() and path.parent.name != "__pycache__")


class CodeTest(unittest.TestCase):
    def test_only_files_of_code(self):
        self.assertIn(PACKAGE / "__init__.py", FILES)
        for path in FILES:
            with self.subTest(path.name):
                self.assertRegex(path.name, "^[a-z0-9_]+[.]py$")

    def test_sizes(self):
        for path in FILES:
            lines = path.read_text("utf-8").splitlines()
            with self.subTest(path.name):
                self.assertLessEqual(len(lines), 399)
                self.assertEqual([line for line in lines if len(line) > 120], [])
            for node in ast.walk(ast.parse(path.read_text("utf-8"))):
                if isinstance(node, ast.FunctionDef):
                    with self.subTest(path.name, function=node.name):
                        self.assertLessEqual(node.end_lineno - node.lineno + 1, 40)

    def test_characters(self):
        for path in FILES:
            with self.subTest(path.name):
                strange = [sign for sign in path.read_text("utf-8") if sign != "\n" and not " " <= sign <= "~"]
                self.assertEqual(strange, [])


class ReadmeTest(unittest.TestCase):
    def test_examples(self):
        told = doctest.testfile(str(PACKAGE.parent / "README.md"), module_relative=False, encoding="utf-8")
        self.assertGreater(told.attempted, 0)
        self.assertEqual(told.failed, 0)


if __name__ == "__main__":
    unittest.main()
