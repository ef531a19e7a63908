"""The interface: names, arguments, and where each function, class and method is defined."""

import importlib
import inspect
import unittest

from reticle.cells import Cell, Library
from reticle.layouts import Layout
from reticle.stores import Store
from reticle.trees import Tree

SPREADS = "*, left=0, down=0, right=0, up=0"

FUNCTIONS = {
    "boxes": {
        "is_box": "(box)", "has_square": "(box, x, y)", "box_area": "(box)", "overlap": "(first, second)",
        "touch": "(first, second)", "hull": "(boxes)", "spread_box": f"(box, {SPREADS})",
    },
    "moves": {
        "is_move": "(move)", "move_box": "(move, box)", "move_square": "(move, x, y)", "chain": "(first, second)",
        "inverse": "(move)",
    },
    "regions": {
        "region_of": "(boxes)", "is_region": "(boxes)", "covers": "(region, x, y)", "area": "(region)",
        "union": "(first, second)", "meeting": "(first, second)", "rest": "(first, second)",
        "odd_part": "(first, second)", "move_region": "(move, region)",
    },
    "sizing": {
        "spread": f"(region, {SPREADS})", "grow": "(region, n)", "shrink": "(region, n)", "opened": "(region, n)",
        "gaps": "(region, n)",
    },
    "pieces": {
        "pieces": "(region)", "piece_at": "(region, x, y)", "first_square": "(region)",
        "are_joined": "(region, first, second)", "outline_length": "(region)",
    },
    "layouts": {"is_name": "(name)"},
    "flattening": {"copies": "(placement)", "flatten": "(library, name, *, limit=10000)"},
    "librarytext": {"format_library": "(library)", "parse_library": "(text)"},
}

METHODS = {
    Layout: {
        "__init__": "(self, shapes, labels)", "region": "(self, layer)", "moved": "(self, move)", "shapes": "(self)",
        "__eq__": "(self, other)",
    },
    Cell: {"__init__": "(self, name, shapes, labels, placements)"},
    Library: {
        "__init__": "(self, cells)", "cell": "(self, name)", "shape_count": "(self, name)",
        "label_count": "(self, name)", "depth": "(self, name)",
    },
    Store: {
        "__init__": "(self)", "__len__": "(self)", "add": "(self, layer, box)", "remove": "(self, number)",
        "shape": "(self, number)", "find": "(self, layer, window)", "find_square": "(self, layer, x, y)",
        "numbers": "(self)", "undo": "(self)", "redo": "(self)", "back_to": "(self, mark)", "layout": "(self)",
    },
    Tree: {"__init__": "(self, rows)", "find": "(self, window)", "depth": "(self)"},
}

PROPERTIES = {Library: ["cell_names"], Store: ["mark"]}

MODULES = {Layout: "layouts", Cell: "cells", Library: "cells", Store: "stores", Tree: "trees"}


class Interface(unittest.TestCase):
    def test_functions(self):
        for file, functions in FUNCTIONS.items():
            module = importlib.import_module(f"reticle.{file}")
            for name, arguments in functions.items():
                function = getattr(module, name)
                self.assertEqual(str(inspect.signature(function)), arguments, name)
                self.assertEqual(function.__module__, f"reticle.{file}")

    def test_methods_stand_in_the_class_itself(self):
        for kind, methods in METHODS.items():
            for name, arguments in methods.items():
                self.assertEqual(str(inspect.signature(vars(kind)[name])), arguments, (kind, name))

    def test_properties(self):
        for kind, names in PROPERTIES.items():
            for name in names:
                self.assertIsInstance(vars(kind)[name], property)

    def test_classes_are_defined_in_their_files(self):
        for kind, file in MODULES.items():
            self.assertEqual(kind.__module__, f"reticle.{file}")

    def test_fields_are_set_when_an_object_is_created(self):
        self.assertIn("labels", vars(Layout([], [])))
        for field in ("name", "shapes", "labels", "placements"):
            self.assertIn(field, vars(Cell("a", [], [], [])))


if __name__ == "__main__":
    unittest.main()
