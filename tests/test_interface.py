"""The interface: each name stands in its file, and its arguments are handed by their places."""

import ast
import inspect
import unittest
from importlib import import_module
from pathlib import Path

FOLDER = Path(__file__).resolve().parent.parent / "ledhome"

FUNCTIONS = {
    "webs": {
        "web_of": 2, "line_web": 1, "ring_web": 1, "grid_web": 2, "tree_web": 1, "cube_web": 1,
        "neighbours": 2, "hang_together": 2, "how_far": 3,
    },
    "rounds": {
        "behind_round": 3, "behind_doing": 3, "leads_home": 3, "turned_about": 1, "far_from_home": 2,
    },
    "lines": {"line_first": 1, "line_home": 1},
    "grids": {"grid_home": 3, "spread_columns": 1},
    "along": {"home_along": 2, "tree_of": 1, "never_home": 2},
    "least": {"least_home": 2, "all_rounds": 1, "levels_show": 3, "levels_of": 2, "how_many_least": 2},
    "cubes": {"halves_of": 1, "cube_home": 2},
    "rings": {"ring_home": 1, "shorter_ways": 1},
    "kinds": {"homes_for": 3, "least_for": 3, "how_many_come": 2},
    "shorter": {"moved_ahead": 2, "undone_left_out": 2, "where_to": 2, "do_alike": 3, "pairs_like_one": 1},
    "beside": {"webs_beside": 2, "things_beside": 4, "doing_beside": 4, "web_crossed": 2},
    "texts": {
        "web_text": 1, "things_text": 1, "doing_text": 1, "read_web": 1, "read_things": 1, "read_doing": 1,
    },
}

METHODS = {"desk": {"Desk": {"say": 1}}}


class Interface(unittest.TestCase):
    def test_each_function_is_defined_in_its_file(self):
        for file, functions in FUNCTIONS.items():
            rows = ast.parse((FOLDER / f"{file}.py").read_text()).body
            defined = [row.name for row in rows if isinstance(row, ast.FunctionDef)]
            for name in functions:
                self.assertIn(name, defined, file)

    def test_each_function_takes_its_arguments_by_their_places(self):
        for file, functions in FUNCTIONS.items():
            module = import_module(f"ledhome.{file}")
            for name, many in functions.items():
                with self.subTest(name):
                    inspect.signature(getattr(module, name)).bind(*[None] * many)

    def test_each_method_is_defined_in_its_class(self):
        for file, classes in METHODS.items():
            rows = ast.parse((FOLDER / f"{file}.py").read_text()).body
            module = import_module(f"ledhome.{file}")
            for name, methods in classes.items():
                body = [row.body for row in rows if isinstance(row, ast.ClassDef) and row.name == name]
                self.assertEqual(len(body), 1)
                defined = [row.name for row in body[0] if isinstance(row, ast.FunctionDef)]
                made = getattr(module, name)()
                for method, many in methods.items():
                    self.assertIn(method, defined)
                    inspect.signature(getattr(made, method)).bind(*[None] * many)


class Form(unittest.TestCase):
    """The measures that ../shared/LANGUAGE.md sets for files and functions (L1, L2, L10, L14)."""

    def files(self):
        for path in sorted(FOLDER.rglob("*.py")):
            yield path.name, path.read_text()

    def test_files_are_short_and_plain(self):
        for name, text in self.files():
            lines = text.split("\n")
            self.assertLess(len(lines), 400, name)
            self.assertLessEqual(max(map(len, lines)), 120, name)
            self.assertTrue(all(sign == "\n" or " " <= sign <= "~" for sign in text), name)

    def test_functions_are_short(self):
        for name, text in self.files():
            for row in ast.walk(ast.parse(text)):
                if isinstance(row, ast.FunctionDef):
                    self.assertLessEqual(row.end_lineno - row.lineno + 1, 40, (name, row.name))

    def test_imports_are_of_the_package_or_of_what_is_allowed(self):
        allowed = {"heapq", "math", "itertools", "collections"}
        for name, text in self.files():
            for row in ast.walk(ast.parse(text)):
                self.assertNotIsInstance(row, ast.Import, name)
                if isinstance(row, ast.ImportFrom):
                    self.assertTrue(row.module in allowed or row.module.startswith("ledhome."), name)


if __name__ == "__main__":
    unittest.main()
