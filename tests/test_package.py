"""What the files of the package hold: the interface's names, and rules of LANGUAGE.md that can be counted."""

import ast
import importlib
import pathlib
import unittest

PACKAGE = pathlib.Path(__file__).resolve().parent.parent / "letpast"
INTERFACE = {
    "errors": {"LetError": ()},
    "layouts": {
        "BadLayout": (), "NoBlock": (), "BadSize": (),
        "Layout": ("__init__", "start_of", "size_of", "place_for"),
    },
    "texts": {"BadText": (), "read_layout": (), "write_layout": ()},
    "rooms": {"BadRooms": (), "settled_rooms": ()},
    "plans": {
        "BadPlan": (), "NotPossible": (), "LeftAside": (), "settled_plan": (), "checked": (), "states_of": (),
        "cells_moved": (), "joined": (), "reversed_plan": (),
    },
    "cells": {"BadCells": (), "carried": (), "steps_of": (), "undone": ()},
    "slides": {"BadTarget": (), "slides": ()},
    "gaps": {"BadLength": (), "gap_plan": ()},
}


def package_files():
    return [path for path in sorted(PACKAGE.rglob("*")) if "__pycache__" not in path.parts and path.is_file()]


class Interface(unittest.TestCase):
    def test_each_name_is_defined_in_its_own_file(self):
        for module, names in INTERFACE.items():
            for name, methods in names.items():
                thing = getattr(importlib.import_module(f"letpast.{module}"), name)
                self.assertEqual(thing.__module__, f"letpast.{module}", name)
                for method in methods:
                    self.assertIn(method, vars(thing))


class Rules(unittest.TestCase):
    def test_only_python_files(self):
        self.assertEqual({path.suffix for path in package_files()}, {".py"})

    def test_sizes_and_signs(self):
        for path in package_files():
            lines = path.read_text("utf-8").split("\n")
            self.assertLessEqual(len(lines), 400, path)
            for number, line in enumerate(lines, start=1):
                place = f"{path.name}:{number}"
                self.assertLessEqual(len(line), 120, place)
                self.assertTrue(all(" " <= sign <= "~" for sign in line), place)

    def test_functions_are_short(self):
        for path in package_files():
            for node in ast.walk(ast.parse(path.read_text("utf-8"))):
                if isinstance(node, ast.FunctionDef):
                    self.assertLessEqual(node.end_lineno - node.lineno + 1, 40, f"{path.name}: {node.name}")

    def test_imports_are_from_the_package_or_the_named_library(self):
        library = ("heapq", "math", "itertools", "collections", "__future__")
        for path in package_files():
            for node in ast.walk(ast.parse(path.read_text("utf-8"))):
                self.assertNotIsInstance(node, ast.Import, path.name)
                if isinstance(node, ast.ImportFrom):
                    self.assertEqual(node.level, 0, path.name)
                    self.assertTrue(node.module in library or node.module.startswith("letpast."), path.name)


if __name__ == "__main__":
    unittest.main()
