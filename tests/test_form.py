"""Some of the rules of form that the package's own files keep to, as far as they are quickly seen."""

import ast
import builtins
import pathlib
import unittest

PACKAGE = pathlib.Path(__file__).resolve().parent.parent / "cellsbymost"
FILES = sorted(PACKAGE.glob("*.py"))
STATEMENTS = (ast.Assign, ast.AugAssign, ast.If, ast.While, ast.For, ast.Return, ast.Break, ast.Continue, ast.Pass,
              ast.Raise, ast.Try, ast.Expr, ast.FunctionDef, ast.ClassDef, ast.ImportFrom)
# Of Python's own names these are used, and these must not be.
USED = ("len", "list", "max", "range", "sum", "zip")
NOT_USED = ("exit", "help", "id", "input", "open", "quit", "register", "type", "vars")


class Form(unittest.TestCase):
    def test_nothing_else_lies_in_the_package(self):
        others = [path.name for path in PACKAGE.iterdir() if path not in FILES and path.name != "__pycache__"]
        self.assertEqual(others, [])

    def test_sizes_and_signs(self):
        for path in FILES:
            rows = path.read_text(encoding="utf-8").split("\n")
            self.assertLessEqual(len(rows), 400)
            for row in rows:
                self.assertLessEqual(len(row), 120)
                self.assertTrue(all(" " <= sign <= "~" for sign in row), row)

    def test_statements_and_functions(self):
        for path in FILES:
            for node in ast.walk(ast.parse(path.read_text(encoding="utf-8"))):
                if isinstance(node, ast.stmt):
                    self.assertIsInstance(node, STATEMENTS)
                if isinstance(node, ast.FunctionDef):
                    self.assertLessEqual(node.end_lineno - node.lineno + 1, 40, node.name)

    def test_no_name_is_a_method_in_one_class_and_a_value_in_another(self):
        methods, values = set(), set()
        for path in FILES:
            for node in ast.walk(ast.parse(path.read_text(encoding="utf-8"))):
                if isinstance(node, ast.ClassDef):
                    methods.update(part.name for part in node.body)
                if isinstance(node, ast.Attribute) and isinstance(node.ctx, ast.Store):
                    values.add(node.attr)
        self.assertEqual(methods & values, set())

    def test_plain_names(self):
        for path in FILES:
            for node in ast.walk(ast.parse(path.read_text(encoding="utf-8"))):
                name = getattr(node, "id", None) or getattr(node, "arg", None) or getattr(node, "name", None)
                if isinstance(name, str) and name != "__init__":
                    self.assertRegex(name, "^[A-Za-z][A-Za-z0-9_]*$")
                    self.assertNotIn(name, NOT_USED)
                if isinstance(node, ast.Name) and node.id in vars(builtins):
                    self.assertIsInstance(node.ctx, ast.Load)
                    self.assertIn(node.id, USED)

    def test_only_the_package_itself_is_imported(self):
        for path in FILES:
            for node in ast.walk(ast.parse(path.read_text(encoding="utf-8"))):
                if isinstance(node, ast.ImportFrom):
                    self.assertEqual(node.module.split(".")[0], "cellsbymost")


if __name__ == "__main__":
    unittest.main()
