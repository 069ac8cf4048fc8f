"""The form of the package: what the rules of its language subset let a test measure."""

import ast
import os
import unittest

import barrelrow

FOLDER = os.path.dirname(barrelrow.__file__)
LIBRARY = {"heapq", "math", "itertools", "collections"}
DECORATORS = ("property", "classmethod", "staticmethod")


def package_files():
    return sorted(name for name in os.listdir(FOLDER) if name != "__pycache__")


def source(name):
    with open(os.path.join(FOLDER, name), encoding="utf-8") as file:
        return file.read()


def nodes(name, kinds):
    return [node for node in ast.walk(ast.parse(source(name))) if isinstance(node, kinds)]


class Form(unittest.TestCase):
    def test_only_python_files(self):
        self.assertIn("__init__.py", package_files())
        for name in package_files():
            self.assertTrue(name.endswith(".py") and name == name.lower(), name)

    def test_characters_and_sizes(self):
        for name in package_files():
            text = source(name)
            self.assertTrue(all(sign == "\n" or " " <= sign <= "~" for sign in text), name)
            lines = text.split("\n")
            self.assertLessEqual(len(lines), 399, name)
            self.assertLessEqual(max(len(line) for line in lines), 120, name)

    def test_functions(self):
        for name in package_files():
            for function in nodes(name, ast.FunctionDef):
                self.assertLessEqual(function.end_lineno - function.lineno + 1, 40, function.name)
                for decorator in function.decorator_list:
                    self.assertIn(ast.unparse(decorator), DECORATORS)

    def test_imports(self):
        for name in package_files():
            self.assertEqual(nodes(name, ast.Import), [])
            for node in nodes(name, ast.ImportFrom):
                self.assertEqual(node.level, 0)
                self.assertTrue(node.module in LIBRARY or node.module.startswith("barrelrow."), node.module)
                for imported in node.names:
                    self.assertIsNone(imported.asname)
                    self.assertNotEqual(imported.name, "*")

    def test_what_is_not_used(self):
        kinds = (ast.Global, ast.AsyncFunctionDef, ast.Await, ast.Div, ast.SetComp)
        for name in package_files():
            self.assertEqual(nodes(name, kinds), [])
            for constant in nodes(name, ast.Constant):
                self.assertNotIsInstance(constant.value, (float, complex))


if __name__ == "__main__":
    unittest.main()
