"""Point 1 over the whole package: exact, closed off from the world, and as the interface names it."""

import ast
import importlib
import inspect
import unittest
from pathlib import Path

PACKAGE = Path(__file__).resolve().parent.parent / "landlines"

INTERFACE = {
    "landlines.spots": {"spot_of": ["x", "y", "by"], "turn": ["one", "two", "three"]},
    "landlines.fences": {
        "fence_of": ["a", "b", "c"],
        "edges": ["size"],
        "reach": ["fence", "spot"],
        "meeting": ["one", "other"],
    },
}

# What reaches outside of the program, or is not exact, among Python's builtins.
BARRED_NAMES = {"open", "input", "print", "float", "complex", "round", "exec", "eval", "compile", "__import__"}


def sources():
    """Each file of the package with its lines."""
    return [(path, path.read_text(encoding="utf-8")) for path in sorted(PACKAGE.rglob("*.py"))]


class InterfaceTest(unittest.TestCase):
    def test_each_function_is_defined_in_its_file_with_its_arguments(self):
        for module, functions in INTERFACE.items():
            for name, arguments in functions.items():
                with self.subTest(module=module, name=name):
                    function = getattr(importlib.import_module(module), name)
                    self.assertTrue(inspect.isfunction(function))
                    self.assertEqual(function.__module__, module)
                    self.assertEqual(list(inspect.signature(function).parameters), arguments)

    def test_the_package_is_one_folder_of_python_files(self):
        self.assertTrue((PACKAGE / "__init__.py").is_file())
        others = [
            path.name for path in PACKAGE.iterdir() if path.suffix != ".py" and path.name != "__pycache__"
        ]
        self.assertEqual(others, [])


class ClosedOffTest(unittest.TestCase):
    def test_only_the_package_itself_and_gcd_are_imported(self):
        for path, text in sources():
            for node in ast.walk(ast.parse(text)):
                with self.subTest(path=path.name):
                    self.assertNotIsInstance(node, ast.Import)
                    if isinstance(node, ast.ImportFrom) and not node.module.startswith("landlines."):
                        self.assertEqual((node.module, [name.name for name in node.names]), ("math", ["gcd"]))

    def test_nothing_inexact_and_nothing_from_outside_is_used(self):
        for path, text in sources():
            for node in ast.walk(ast.parse(text)):
                with self.subTest(path=path.name):
                    self.assertNotIsInstance(node, ast.Div)
                    if isinstance(node, ast.Constant):
                        self.assertNotIsInstance(node.value, (float, complex))
                    if isinstance(node, ast.Name):
                        self.assertNotIn(node.id, BARRED_NAMES)

    def test_files_are_plain(self):
        for path, text in sources():
            with self.subTest(path=path.name):
                self.assertTrue(all(sign == "\n" or " " <= sign <= "~" for sign in text))
                rows = text.split("\n")
                self.assertLess(len(rows), 400)
                self.assertLessEqual(max(len(row) for row in rows), 120)

    def test_functions_are_small(self):
        for path, text in sources():
            for node in ast.walk(ast.parse(text)):
                if isinstance(node, ast.FunctionDef):
                    with self.subTest(path=path.name, function=node.name):
                        self.assertLessEqual(node.end_lineno - node.lineno + 1, 40)


if __name__ == "__main__":
    unittest.main()
