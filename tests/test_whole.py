"""Point 1 over the whole package: exact, closed off from the world, and as the interface names it."""

import ast
import importlib
import inspect
import unittest
from copy import deepcopy
from pathlib import Path

from landlines.far import farthest, twice_area
from landlines.fences import edges
from landlines.ground import Ground
from landlines.land import corners, holds, nothing
from tests import reference

PACKAGE = Path(__file__).resolve().parent.parent / "landlines"

INTERFACE = {
    "landlines.spots": {"spot_of": ["x", "y", "by"], "turn": ["one", "two", "three"]},
    "landlines.fences": {
        "fence_of": ["a", "b", "c"],
        "edges": ["size"],
        "reach": ["fence", "spot"],
        "meeting": ["one", "other"],
    },
    "landlines.land": {
        "holds": ["size", "fences", "spot"],
        "corners": ["size", "fences"],
        "nothing": ["size", "fences"],
    },
    "landlines.far": {"farthest": ["size", "fences", "way"], "twice_area": ["size", "fences"]},
}

METHODS = {
    "__init__": ["self", "size"],
    "put": ["self", "fence"],
    "take": ["self", "number"],
    "standing": ["self"],
    "corners": ["self"],
    "area": ["self"],
}

# What Python brings along and is exact.
LIBRARY = {("math", "gcd"), ("itertools", "combinations")}

# What reaches outside of the program, or is not exact, among Python's builtins.
BARRED_NAMES = {"open", "input", "print", "float", "complex", "round", "exec", "eval", "compile", "__import__"}


def sources():
    """Each file of the package with its lines."""
    return [(path, path.read_text(encoding="utf-8")) for path in sorted(PACKAGE.rglob("*.py"))]


class InterfaceTest(unittest.TestCase):
    def test_each_function_is_defined_in_its_file_with_its_arguments(self):
        for module, functions in INTERFACE.items():
            for name, arguments in functions.items():
                with self.subTest(module=module, name=name):
                    function = getattr(importlib.import_module(module), name)
                    self.assertTrue(inspect.isfunction(function))
                    self.assertEqual(function.__module__, module)
                    self.assertEqual(list(inspect.signature(function).parameters), arguments)

    def test_the_ground_defines_each_method_itself_with_its_arguments(self):
        self.assertEqual(Ground.__module__, "landlines.ground")
        for name, arguments in METHODS.items():
            with self.subTest(name=name):
                method = vars(Ground)[name]
                self.assertTrue(inspect.isfunction(method))
                self.assertEqual(list(inspect.signature(method).parameters), arguments)

    def test_the_package_is_one_folder_of_python_files(self):
        self.assertTrue((PACKAGE / "__init__.py").is_file())
        others = [
            path.name for path in PACKAGE.iterdir() if path.suffix != ".py" and path.name != "__pycache__"
        ]
        self.assertEqual(others, [])


class ClosedOffTest(unittest.TestCase):
    def test_only_the_package_itself_and_what_is_exact_is_imported(self):
        for path, text in sources():
            for node in ast.walk(ast.parse(text)):
                with self.subTest(path=path.name):
                    self.assertNotIsInstance(node, ast.Import)
                    if isinstance(node, ast.ImportFrom) and not node.module.startswith("landlines."):
                        self.assertLessEqual({(node.module, name.name) for name in node.names}, LIBRARY)

    def test_nothing_inexact_and_nothing_from_outside_is_used(self):
        for path, text in sources():
            for node in ast.walk(ast.parse(text)):
                with self.subTest(path=path.name):
                    self.assertNotIsInstance(node, ast.Div)
                    if isinstance(node, ast.Constant):
                        self.assertNotIsInstance(node.value, (float, complex))
                    if isinstance(node, ast.Name):
                        self.assertNotIn(node.id, BARRED_NAMES)

    def test_files_are_plain(self):
        for path, text in sources():
            with self.subTest(path=path.name):
                self.assertTrue(all(sign == "\n" or " " <= sign <= "~" for sign in text))
                rows = text.split("\n")
                self.assertLess(len(rows), 400)
                self.assertLessEqual(max(len(row) for row in rows), 120)

    def test_functions_are_small(self):
        for path, text in sources():
            for node in ast.walk(ast.parse(text)):
                if isinstance(node, ast.FunctionDef):
                    with self.subTest(path=path.name, function=node.name):
                        self.assertLessEqual(node.end_lineno - node.lineno + 1, 40)


class HandedInAndToldTest(unittest.TestCase):
    """That nothing that is handed in is changed, and that every list that is told is a new one."""

    ASKED = (
        lambda size, fences: holds(size, fences, (1, 1, 2)),
        corners,
        nothing,
        lambda size, fences: farthest(size, fences, (1, 2)) if corners(size, fences) else None,
        lambda size, fences: farthest(size, fences, (-1, 0)) if corners(size, fences) else None,
        twice_area,
    )

    def test_the_fences_handed_in_stay_as_they_were(self):
        for size, fences in reference.chosen_fields(80):
            before = deepcopy(fences)
            for ask in self.ASKED:
                ask(size, fences)
                self.assertEqual(fences, before)

    def test_the_fences_handed_in_stay_as_they_were_where_they_are_refused(self):
        for fences in ([(1, 1, 5)] * 17, [(1, 1, 5), (0, 0, 0)], [[1, 2, 3]], [(1, 0, -1)]):
            before = deepcopy(fences)
            for ask in (*self.ASKED, lambda size, rows: farthest(size, rows, [1, 2])):
                try:
                    ask(10, fences)
                except ValueError:
                    pass
                self.assertEqual(fences, before)

    def test_a_told_list_that_is_changed_changes_no_later_answer(self):
        for ask in (
            lambda: edges(10),
            lambda: corners(10, []),
            lambda: corners(10, [(1, 1, 15)]),
            lambda: corners(10, [(1, 1, 0)]),
            lambda: corners(10, [(1, 0, -1)]),
            lambda: nothing(10, [(1, 0, -1)]),
            lambda: nothing(10, [(1, 1, -1)]),
            lambda: farthest(10, [(1, 1, 15)], (1, 1))[2],
            lambda: farthest(10, [(1, 1, 15)], (1, 2))[2],
        ):
            told = ask()
            wanted = list(told)
            self.assertIs(type(told), list)
            told.append("more")
            told[0] = None
            told.reverse()
            self.assertIsNot(ask(), told)
            self.assertEqual(ask(), wanted)

    def test_no_told_list_is_the_one_handed_in(self):
        fences = edges(10)
        for told in (corners(10, fences), farthest(10, fences, (1, 1))[2]):
            self.assertIsNot(told, fences)

    def test_a_list_of_fences_changed_behind_an_answer_changes_only_later_ones(self):
        fences = [(1, 1, 15)]
        told = corners(10, fences)
        before = list(told)
        fences.append((1, 0, 3))
        self.assertEqual(told, before)
        self.assertEqual(corners(10, fences), corners(10, [(1, 1, 15), (1, 0, 3)]))

    def test_the_same_is_told_of_the_same_each_time(self):
        for size, fences in reference.chosen_fields(40):
            for ask in self.ASKED:
                self.assertEqual(ask(size, fences), ask(size, list(fences)))


if __name__ == "__main__":
    unittest.main()
