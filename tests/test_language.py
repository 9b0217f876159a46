"""The rules of ../shared/LANGUAGE.md that are quickly checked: files, imports, lengths, signs and warnings."""

import ast
import pathlib
import unittest
import warnings

PACKAGE = pathlib.Path(__file__).resolve().parent.parent / "turnfloor"
FILES = sorted(PACKAGE.rglob("*.py"))
LIBRARY = {"heapq", "math", "itertools", "collections", "__future__"}
INTERFACE = {
    "errors": ["FloorError", "BadFloor", "Parted", "Holed", "NoCell", "BadLaying", "NoLaying", "NoHeights", "NoTurn",
               "BadText"],
    "floors": ["Floor", "is_dark"],
    "layings": ["told_laying", "laid_or_short"],
}
FLOOR_METHODS = ["__init__", "rows", "has", "cells", "beside", "corners", "inner"]


def tree_of(path):
    return ast.parse(path.read_text(encoding="ascii"))


class LanguageTest(unittest.TestCase):
    def test_the_folder_holds_nothing_but_python_files(self):
        others = [path for path in PACKAGE.rglob("*") if path.suffix != ".py" and "__pycache__" not in path.parts]
        self.assertEqual(others, [])
        self.assertIn(PACKAGE / "__init__.py", FILES)

    def test_lengths_and_signs(self):
        for path in FILES:
            lines = path.read_bytes().split(b"\n")
            with self.subTest(path.name):
                self.assertLessEqual(len(lines), 399)
                self.assertLessEqual(max(len(line) for line in lines), 120)
                self.assertTrue(all(32 <= sign <= 126 for line in lines for sign in line))

    def test_functions_have_at_most_forty_lines(self):
        for path in FILES:
            for node in ast.walk(tree_of(path)):
                if isinstance(node, ast.FunctionDef):
                    self.assertLessEqual(node.end_lineno - node.lineno + 1, 40, f"{path.name}: {node.name}")

    def test_imports_name_files_of_the_package(self):
        for path in FILES:
            for node in ast.walk(tree_of(path)):
                self.assertNotIsInstance(node, ast.Import, path.name)
                if isinstance(node, ast.ImportFrom):
                    self.assertEqual(node.level, 0, path.name)
                    self.assertTrue(node.module.startswith("turnfloor.") or node.module in LIBRARY, path.name)

    def test_python_warns_of_nothing(self):
        for path in FILES:
            with warnings.catch_warnings():
                warnings.simplefilter("error")
                compile(path.read_text(encoding="ascii"), path.name, "exec")

    def test_the_interface_is_defined_where_it_is_listed(self):
        for name, wanted in INTERFACE.items():
            defined = [node.name for node in tree_of(PACKAGE / f"{name}.py").body if hasattr(node, "name")]
            self.assertEqual([one for one in wanted if one not in defined], [])

    def test_floor_has_its_methods_in_its_own_body(self):
        floor = [node for node in tree_of(PACKAGE / "floors.py").body if getattr(node, "name", "") == "Floor"][0]
        defined = [node.name for node in floor.body if isinstance(node, ast.FunctionDef)]
        self.assertEqual([one for one in FLOOR_METHODS if one not in defined], [])


if __name__ == "__main__":
    unittest.main()
