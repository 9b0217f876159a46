"""The rules of ../shared/LANGUAGE.md that are quickly checked: files, imports, lengths, signs and warnings."""

import ast
import builtins
import pathlib
import unittest
import warnings

PACKAGE = pathlib.Path(__file__).resolve().parent.parent / "turnfloor"
FILES = sorted(PACKAGE.rglob("*.py"))
LIBRARY = {"heapq", "math", "itertools", "collections", "__future__"}
INTERFACE = {
    "errors": ["FloorError", "BadFloor", "Parted", "Holed", "NoCell", "BadLaying", "NoLaying", "NoHeights", "NoTurn",
               "BadText"],
    "floors": ["Floor", "is_dark"],
    "layings": ["told_laying", "laid_or_short"],
    "heights": ["heights_of", "is_heights", "laying_from"],
    "turning": ["turns_of", "turned_at", "turns_apart", "way_between"],
    "beneath": ["lower_of", "upper_of", "least_laying", "greatest_laying"],
    "texts": ["shown_text", "read_text"],
}
ARGUMENTS = {
    "is_dark": ["cell"], "told_laying": ["floor", "pieces"], "laid_or_short": ["floor"],
    "heights_of": ["floor", "pieces"], "is_heights": ["floor", "numbers"], "laying_from": ["floor", "numbers"],
    "turns_of": ["floor", "pieces"], "turned_at": ["floor", "pieces", "corner"],
    "turns_apart": ["floor", "one", "other"], "way_between": ["floor", "one", "other"],
    "lower_of": ["floor", "one", "other"], "upper_of": ["floor", "one", "other"],
    "least_laying": ["floor"], "greatest_laying": ["floor"], "shown_text": ["floor", "pieces"], "read_text": ["text"],
}
FLOOR_METHODS = ["__init__", "rows", "has", "cells", "beside", "corners", "inner"]
BUILTINS = """len range enumerate zip min max sum abs sorted reversed int str bool list tuple dict set isinstance ord
repr any all divmod ValueError type""".split()
METHODS = """append clear copy count get index insert items join keys pop remove replace reverse split update
values""".split()
BARRED = """type typing enum Enum Generic Protocol ABC namedtuple NamedTuple TypedDict dataclass register mro elements
open input law""".split()


def tree_of(path):
    return ast.parse(path.read_text(encoding="ascii"))


class LanguageTest(unittest.TestCase):
    def test_the_folder_holds_nothing_but_python_files(self):
        others = [path for path in PACKAGE.rglob("*") if path.suffix != ".py" and "__pycache__" not in path.parts]
        self.assertEqual(others, [])
        self.assertIn(PACKAGE / "__init__.py", FILES)

    def test_lengths_and_signs(self):
        for path in FILES:
            lines = path.read_bytes().split(b"\n")
            with self.subTest(path.name):
                self.assertLessEqual(len(lines), 399)
                self.assertLessEqual(max(len(line) for line in lines), 120)
                self.assertTrue(all(32 <= sign <= 126 for line in lines for sign in line))

    def test_functions_have_at_most_forty_lines(self):
        for path in FILES:
            for node in ast.walk(tree_of(path)):
                if isinstance(node, ast.FunctionDef):
                    self.assertLessEqual(node.end_lineno - node.lineno + 1, 40, f"{path.name}: {node.name}")

    def test_imports_name_files_of_the_package(self):
        for path in FILES:
            for node in ast.walk(tree_of(path)):
                self.assertNotIsInstance(node, ast.Import, path.name)
                if isinstance(node, ast.ImportFrom):
                    self.assertEqual(node.level, 0, path.name)
                    self.assertTrue(node.module.startswith("turnfloor.") or node.module in LIBRARY, path.name)

    def test_python_warns_of_nothing(self):
        for path in FILES:
            with warnings.catch_warnings():
                warnings.simplefilter("error")
                compile(path.read_text(encoding="ascii"), path.name, "exec")

    def test_the_interface_is_defined_where_it_is_listed(self):
        for name, wanted in INTERFACE.items():
            defined = [node.name for node in tree_of(PACKAGE / f"{name}.py").body if hasattr(node, "name")]
            self.assertEqual([one for one in wanted if one not in defined], [])

    def test_the_arguments_have_the_names_that_are_listed(self):
        for name, wanted in INTERFACE.items():
            for node in tree_of(PACKAGE / f"{name}.py").body:
                if getattr(node, "name", "") in ARGUMENTS and node.name in wanted:
                    self.assertEqual([argument.arg for argument in node.args.args], ARGUMENTS[node.name])

    def test_what_is_called_is_allowed(self):
        own = [node.name for path in FILES for node in ast.walk(tree_of(path)) if hasattr(node, "name")]
        for path in FILES:
            for node in ast.walk(tree_of(path)):
                if isinstance(node, ast.Call) and isinstance(node.func, ast.Attribute):
                    self.assertIn(node.func.attr, METHODS + own, path.name)
                elif isinstance(node, ast.Call):
                    self.assertIn(node.func.id, BUILTINS + own, path.name)

    def test_no_name_has_another_meaning(self):
        for path in FILES:
            tree = tree_of(path)
            imports = [alias.name for node in tree.body if isinstance(node, ast.ImportFrom) for alias in node.names]
            stored = [node.id for node in ast.walk(tree)
                      if isinstance(node, ast.Name) and not isinstance(node.ctx, ast.Load)]
            stored += [node.arg for node in ast.walk(tree) if isinstance(node, ast.arg)]
            defined = [node.name for node in tree.body if hasattr(node, "name")]
            for name in stored + defined:
                self.assertNotIn(name, dir(builtins) + BARRED, path.name)
            for name in stored:
                self.assertNotIn(name, imports + defined, path.name)

    def test_no_two_files_import_from_each_other(self):
        reached = {path.stem: self.imported_by(path.stem) for path in FILES}
        for _ in FILES:
            reached = {name: known.union(*[reached[one] for one in known]) for name, known in reached.items()}
        self.assertEqual([name for name, known in reached.items() if name in known], [])

    def imported_by(self, name):
        return {node.module.split(".")[1] for node in tree_of(PACKAGE / f"{name}.py").body
                if isinstance(node, ast.ImportFrom) and node.module.startswith("turnfloor.")}

    def test_each_import_is_used(self):
        for path in FILES:
            tree = tree_of(path)
            used = [node.id for node in ast.walk(tree) if isinstance(node, ast.Name)]
            for node in tree.body:
                if isinstance(node, ast.ImportFrom):
                    self.assertEqual([alias.name for alias in node.names if alias.name not in used], [], path.name)

    def test_floor_has_its_methods_in_its_own_body(self):
        floor = [node for node in tree_of(PACKAGE / "floors.py").body if getattr(node, "name", "") == "Floor"][0]
        defined = [node.name for node in floor.body if isinstance(node, ast.FunctionDef)]
        self.assertEqual([one for one in FLOOR_METHODS if one not in defined], [])


if __name__ == "__main__":
    unittest.main()
