"""The form of the package: what the rules of its language subset let a test measure."""

import ast
import os
import unittest

import barrelrow

FOLDER = os.path.dirname(barrelrow.__file__)
LIBRARY = {"heapq", "math", "itertools", "collections"}
DECORATORS = ("property", "classmethod", "staticmethod")


def package_files():
    return sorted(name for name in os.listdir(FOLDER) if name != "__pycache__")


def source(name):
    with open(os.path.join(FOLDER, name), encoding="utf-8") as file:
        return file.read()


def nodes(name, kinds):
    return [node for node in ast.walk(ast.parse(source(name))) if isinstance(node, kinds)]


class Form(unittest.TestCase):
    def test_only_python_files(self):
        self.assertIn("__init__.py", package_files())
        for name in package_files():
            self.assertTrue(name.endswith(".py") and name == name.lower(), name)

    def test_characters_and_sizes(self):
        for name in package_files():
            text = source(name)
            self.assertTrue(all(sign == "\n" or " " <= sign <= "~" for sign in text), name)
            lines = text.split("\n")
            self.assertLessEqual(len(lines), 399, name)
            self.assertLessEqual(max(len(line) for line in lines), 120, name)

    def test_functions(self):
        for name in package_files():
            for function in nodes(name, ast.FunctionDef):
                self.assertLessEqual(function.end_lineno - function.lineno + 1, 40, function.name)
                for decorator in function.decorator_list:
                    self.assertIn(ast.unparse(decorator), DECORATORS)

    def test_imports(self):
        for name in package_files():
            self.assertEqual(nodes(name, ast.Import), [])
            for node in nodes(name, ast.ImportFrom):
                self.assertEqual(node.level, 0)
                self.assertTrue(node.module in LIBRARY or node.module.startswith("barrelrow."), node.module)
                for imported in node.names:
                    self.assertIsNone(imported.asname)
                    self.assertNotEqual(imported.name, "*")

    def test_what_is_not_used(self):
        kinds = (ast.Global, ast.AsyncFunctionDef, ast.Await, ast.Div, ast.SetComp)
        for name in package_files():
            self.assertEqual(nodes(name, kinds), [])
            for constant in nodes(name, ast.Constant):
                self.assertNotIsInstance(constant.value, (float, complex))


# Methods with these names may change their object and call what they like.
FREE_METHODS = ("__init__", "__call__", "__iter__", "__enter__", "__exit__")


def is_quiet(function):
    """Tell whether a method is an operator, a property or the like, so that it may call nothing that objects hold."""
    special = function.name.startswith("__") and function.name not in FREE_METHODS
    return special or "property" in [ast.unparse(decorator) for decorator in function.decorator_list]


class Quiet(unittest.TestCase):
    """Operators and properties, and what they run, call no method that has the name of an attribute."""

    def setUp(self):
        self.attributes = set()
        self.functions = {}
        self.started = []
        for name in package_files():
            for node in nodes(name, ast.Attribute):
                if isinstance(node.ctx, ast.Store):
                    self.attributes.add(node.attr)
            for function in nodes(name, ast.FunctionDef):
                self.functions.setdefault(function.name, []).append(function)
            for kind in nodes(name, ast.ClassDef):
                inits = [node for node in kind.body if getattr(node, "name", "") == "__init__"]
                self.functions.setdefault(kind.name, []).extend(inits)
                self.started += [node for node in kind.body if isinstance(node, ast.FunctionDef) and is_quiet(node)]

    def called(self, function):
        """Return the names that a function calls by themselves, and those of methods."""
        calls = [node.func for node in ast.walk(function) if isinstance(node, ast.Call)]
        plain = [call.id for call in calls if isinstance(call, ast.Name)]
        return plain, [call.attr for call in calls if isinstance(call, ast.Attribute)]

    def run_by(self, functions):
        """Return these functions and all that they run, at any depth."""
        found = list(functions)
        for function in found:
            plain, methods = self.called(function)
            for name in plain + methods:
                found += [other for other in self.functions.get(name, []) if other not in found]
        return found

    def test_operators_and_properties(self):
        self.assertIn("index", self.attributes)
        names = [function.name for function in self.started]
        for name in ("__getitem__", "__sub__", "__add__", "__len__", "__eq__", "names", "records"):
            self.assertIn(name, names)
        found = self.run_by(self.started)
        self.assertIn("place_of", [function.name for function in found])
        for function in found:
            for name in self.called(function)[1]:
                if name != "__init__":
                    self.assertNotIn(name, self.attributes, f"{function.name} calls .{name}(..)")


if __name__ == "__main__":
    unittest.main()
