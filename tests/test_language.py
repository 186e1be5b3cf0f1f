"""Some of the rules of the language subset that a plain look at the code can check."""

import ast
import os
import unittest

TOP = os.path.dirname(os.path.dirname(os.path.abspath(__file__)))
PACKAGE = os.path.join(TOP, "shipsrow")

NODES_NOT_ALLOWED = (ast.AsyncFunctionDef, ast.AsyncFor, ast.AsyncWith, ast.Await, ast.Div, ast.Import)

BUILTINS = ("len range enumerate zip min max sum abs sorted reversed int str bool list tuple dict set isinstance "
            "ord repr any all divmod map iter property super "
            "ValueError KeyError IndexError LookupError ZeroDivisionError").split()


def files():
    for folder, _, names in os.walk(PACKAGE):
        for name in names:
            if not folder.endswith("__pycache__"):
                yield os.path.join(folder, name)


def text_of(path):
    with open(path, encoding="utf-8") as file:
        return file.read()


class LanguageTest(unittest.TestCase):
    def test_files(self):
        found = [os.path.basename(path) for path in files()]
        self.assertIn("__init__.py", found)
        for name in found:
            self.assertRegex(name, r"\A(__init__|[a-z][a-z0-9_]*)\.py\Z")

    def test_sizes_and_characters(self):
        for path in files():
            text = text_of(path)
            self.assertLessEqual(len(text.splitlines()), 399, path)
            for line in text.splitlines():
                self.assertLessEqual(len(line), 120, path)
                self.assertRegex(line, r"\A[ -~]*\Z", path)
            for node in ast.walk(ast.parse(text)):
                if isinstance(node, ast.FunctionDef):
                    self.assertLessEqual(node.end_lineno - node.lineno + 1, 40, (path, node.name))

    def test_imports(self):
        allowed = {"math": {"gcd", "lcm", "isqrt", "comb", "perm", "factorial"}}
        for path in files():
            for node in ast.walk(ast.parse(text_of(path))):
                if isinstance(node, ast.ImportFrom):
                    names = {alias.name for alias in node.names}
                    self.assertEqual([alias.asname for alias in node.names], [None] * len(names), path)
                    self.assertEqual(node.level, 0, path)
                    own = node.module.startswith("shipsrow.")
                    self.assertTrue(own or names <= allowed.get(node.module, set()), (path, node.module))

    def test_no_generator_expression_where_a_class_compares(self):
        """Rule L7: any, all, min, max, sum and sorted take a list then."""
        for path in files():
            for node in ast.walk(ast.parse(text_of(path))):
                self.assertNotIsInstance(node, ast.GeneratorExp, (path, getattr(node, "lineno", None)))

    def test_what_is_not_allowed(self):
        for path in files():
            for node in ast.walk(ast.parse(text_of(path))):
                self.assertNotIsInstance(node, NODES_NOT_ALLOWED, (path, getattr(node, "lineno", None)))
                self.assertFalse(isinstance(node, ast.Constant) and isinstance(node.value, (float, bytes)), path)

    def test_builtins_only_as_allowed(self):
        known = set(dir(__import__("builtins")))
        for path in files():
            for node in ast.walk(ast.parse(text_of(path))):
                if isinstance(node, ast.Name) and node.id in known:
                    self.assertIn(node.id, BUILTINS, (path, node.lineno))
                    self.assertIsInstance(node.ctx, ast.Load, (path, node.lineno))
                if isinstance(node, ast.arg):
                    self.assertNotIn(node.arg, known, path)


if __name__ == "__main__":
    unittest.main()
