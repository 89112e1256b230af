"""What the files of the package hold: the interface's names, and rules of LANGUAGE.md that can be counted."""

import ast
import importlib
import inspect
import pathlib
import unittest

from letpast.errors import LetError

PACKAGE = pathlib.Path(__file__).resolve().parent.parent / "letpast"
# For each module its functions and classes with their arguments; of an error those are its attributes.
INTERFACE = {
    "errors": {"LetError": None},
    "layouts": {
        "BadLayout": ["number", "reason"], "NoBlock": None, "BadSize": None, "Layout": ["capacity", "blocks"],
        "Layout.start_of": ["name"], "Layout.size_of": ["name"], "Layout.place_for": ["size"],
    },
    "texts": {"BadText": ["position"], "read_layout": ["text"], "write_layout": ["layout"]},
    "rooms": {"BadRooms": ["number"], "settled_rooms": ["rooms"]},
    "plans": {
        "BadPlan": ["number"], "NotPossible": ["number", "reason"], "LeftAside": ["names"], "settled_plan": ["plan"],
        "checked": ["layout", "plan", "rooms"], "states_of": ["layout", "plan", "rooms"],
        "cells_moved": ["layout", "plan", "rooms"], "joined": ["layout", "plan", "rooms"],
        "reversed_plan": ["layout", "plan", "rooms"],
    },
    "cells": {
        "BadCells": ["reason"], "carried": ["layout", "plan", "rooms", "cells"],
        "steps_of": ["layout", "plan", "rooms", "cells"], "undone": ["layout", "plan", "rooms", "cells"],
    },
    "slides": {"BadTarget": ["reason"], "slides": ["layout", "target"]},
    "gaps": {"BadLength": None, "gap_plan": ["layout", "length"]},
    "packing": {"BadSizes": ["place"], "packed": ["sizes", "rooms"]},
    "orders": {
        "BadOrder": ["number", "reason"], "NoOrder": None, "settled_order": ["layout", "order"],
        "threshold": ["layout", "rooms"], "blocking_pair": ["layout", "order", "rooms"],
        "can_come_to": ["layout", "target", "rooms"], "order_count": ["layout", "rooms"],
        "order_at": ["layout", "rooms", "index"], "order_index": ["layout", "order", "rooms"],
        "least_room": ["layout", "order", "rooms"],
    },
    "crossings": {
        "BadWeights": ["number"], "fewest_crossings": ["layout", "order", "kept", "weights"],
        "crossed": ["layout", "plan"], "order_plan": ["layout", "order", "rooms"],
    },
    "yards": {
        "BadPut": ["reason"], "NotReached": None, "NothingToUndo": None, "BadEvent": ["number"],
        "Yard": ["capacity", "rooms"], "Yard.layout": [], "Yard.rooms": [], "Yard.toll": [], "Yard.journal": [],
        "Yard.put": ["name", "size"], "Yard.take_away": ["name"], "Yard.move": ["name", "start"],
        "Yard.reorder": ["order"], "Yard.undo": [], "replayed": ["capacity", "rooms", "events"],
    },
}


def listed():
    """For each name of the interface: the module, what has the name, the name behind its dot, and the arguments."""
    for module, names in INTERFACE.items():
        for name, arguments in names.items():
            whole = importlib.import_module(f"letpast.{module}")
            *classes, last = name.split(".")
            yield module, vars(whole)[classes[0]] if classes else whole, last, arguments


def package_files():
    return [path for path in sorted(PACKAGE.rglob("*")) if "__pycache__" not in path.parts and path.is_file()]


class Interface(unittest.TestCase):
    def test_each_name_is_defined_in_its_own_file_and_class(self):
        for module, holder, name, _ in listed():
            self.assertEqual(vars(holder)[name].__module__, f"letpast.{module}", name)

    def test_arguments(self):
        for _, holder, name, arguments in listed():
            if arguments is not None:
                names = list(inspect.signature(vars(holder)[name]).parameters)
                self.assertEqual([one for one in names if one != "self"], arguments, name)

    def test_attributes_are_set_when_an_error_is_created(self):
        for _, holder, name, arguments in listed():
            thing = vars(holder)[name]
            if isinstance(thing, type) and issubclass(thing, ValueError):
                self.assertTrue(issubclass(thing, LetError), name)
                values = [f"value {number}" for number in range(len(arguments or ()))]
                self.assertEqual(vars(thing(*values)), dict(zip(arguments or (), values)), name)


class Rules(unittest.TestCase):
    def test_only_python_files(self):
        self.assertEqual({path.suffix for path in package_files()}, {".py"})

    def test_sizes_and_signs(self):
        for path in package_files():
            lines = path.read_text("utf-8").split("\n")
            self.assertLessEqual(len(lines), 400, path)
            for number, line in enumerate(lines, start=1):
                place = f"{path.name}:{number}"
                self.assertLessEqual(len(line), 120, place)
                self.assertTrue(all(" " <= sign <= "~" for sign in line), place)

    def test_functions_are_short(self):
        for path in package_files():
            for node in ast.walk(ast.parse(path.read_text("utf-8"))):
                if isinstance(node, ast.FunctionDef):
                    self.assertLessEqual(node.end_lineno - node.lineno + 1, 40, f"{path.name}: {node.name}")

    def test_imports_are_from_the_package_or_the_named_library(self):
        library = ("heapq", "math", "itertools", "collections", "__future__")
        for path in package_files():
            for node in ast.walk(ast.parse(path.read_text("utf-8"))):
                self.assertNotIsInstance(node, ast.Import, path.name)
                if isinstance(node, ast.ImportFrom):
                    self.assertEqual(node.level, 0, path.name)
                    self.assertTrue(node.module in library or node.module.startswith("letpast."), path.name)


if __name__ == "__main__":
    unittest.main()
