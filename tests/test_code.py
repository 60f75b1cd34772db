"""What the rules for the code say of files, imports, sizes, characters and names (L1, L2, L10, L14 to L16), and the
examples of README.md."""

import ast
import builtins
import doctest
import pathlib
import unittest

PACKAGE = pathlib.Path(__file__).resolve().parent.parent / "windowtable"
FILES = sorted(path for path in PACKAGE.rglob("*") if path.is_file() and path.parent.name != "__pycache__")
# Python itself puts what it showed last under "_" among its builtins.
BUILTINS = set(dir(builtins)) - {"_"}


class CodeTest(unittest.TestCase):
    def test_only_files_of_code(self):
        self.assertIn(PACKAGE / "__init__.py", FILES)
        for path in FILES:
            with self.subTest(path.name):
                self.assertRegex(path.name, "^[a-z0-9_]+[.]py$")

    def test_sizes(self):
        for path in FILES:
            lines = path.read_text("utf-8").splitlines()
            with self.subTest(path.name):
                self.assertLessEqual(len(lines), 399)
                self.assertEqual([line for line in lines if len(line) > 120], [])
            for node in ast.walk(ast.parse(path.read_text("utf-8"))):
                if isinstance(node, ast.FunctionDef):
                    with self.subTest(path.name, function=node.name):
                        self.assertLessEqual(node.end_lineno - node.lineno + 1, 40)

    def test_characters(self):
        for path in FILES:
            with self.subTest(path.name):
                strange = [sign for sign in path.read_text("utf-8") if sign != "\n" and not " " <= sign <= "~"]
                self.assertEqual(strange, [])


    def test_imports(self):
        for path in FILES:
            for node in ast.walk(ast.parse(path.read_text("utf-8"))):
                self.assertNotIsInstance(node, ast.Import, path.name)
                if isinstance(node, ast.ImportFrom):
                    with self.subTest(path.name, module=node.module):
                        self.assertEqual((node.module.split(".")[0], node.level), ("windowtable", 0))
                        whole = ast.parse((PACKAGE.parent / (node.module.replace(".", "/") + ".py")).read_text("utf-8"))
                        self.assertEqual({name.name for name in node.names} - names_bound(whole.body), set())

    def test_no_builtin_gets_another_meaning(self):
        for path in FILES:
            for node in ast.walk(ast.parse(path.read_text("utf-8"))):
                names = set()
                if isinstance(node, ast.Name) and isinstance(node.ctx, ast.Store):
                    names = {node.id}
                elif isinstance(node, ast.arg):
                    names = {node.arg}
                elif isinstance(node, (ast.FunctionDef, ast.ClassDef)):
                    names = {node.name}
                with self.subTest(path.name):
                    self.assertEqual(names & BUILTINS, set())


def names_bound(statements):
    """The names that a file defines itself."""
    names = {node.name for node in statements if isinstance(node, (ast.FunctionDef, ast.ClassDef))}
    assigned = [node for node in statements if isinstance(node, ast.Assign)]
    return names | {target.id for node in assigned for target in node.targets}


class ReadmeTest(unittest.TestCase):
    def test_examples(self):
        told = doctest.testfile(str(PACKAGE.parent / "README.md"), module_relative=False, encoding="utf-8")
        self.assertGreater(told.attempted, 0)
        self.assertEqual(told.failed, 0)


if __name__ == "__main__":
    unittest.main()
