"""The interface: names, arguments, and where each function, class and method is defined."""

import importlib
import inspect
import unittest

from reticle.cells import Cell, Library
from reticle.circuits import Circuit
from reticle.decks import Deck
from reticle.layouts import Layout
from reticle.schematics import Block, Schematic
from reticle.signoff import Report, sign_off
from reticle.stores import Store
from reticle.trees import Tree
from reticle.wiring import Wiring

SPREADS = "*, left=0, down=0, right=0, up=0"

FUNCTIONS = {
    "boxes": {
        "is_box": "(box)", "has_square": "(box, x, y)", "box_area": "(box)", "overlap": "(first, second)",
        "touch": "(first, second)", "hull": "(boxes)", "spread_box": f"(box, {SPREADS})",
    },
    "moves": {
        "is_move": "(move)", "move_box": "(move, box)", "move_square": "(move, x, y)", "chain": "(first, second)",
        "inverse": "(move)",
    },
    "regions": {
        "region_of": "(boxes)", "is_region": "(boxes)", "covers": "(region, x, y)", "area": "(region)",
        "union": "(first, second)", "meeting": "(first, second)", "rest": "(first, second)",
        "odd_part": "(first, second)", "move_region": "(move, region)",
    },
    "sizing": {
        "spread": f"(region, {SPREADS})", "grow": "(region, n)", "shrink": "(region, n)", "opened": "(region, n)",
        "gaps": "(region, n)",
    },
    "pieces": {
        "pieces": "(region)", "piece_at": "(region, x, y)", "first_square": "(region)",
        "are_joined": "(region, first, second)", "outline_length": "(region)",
    },
    "layouts": {"is_name": "(name)"},
    "flattening": {"copies": "(placement)", "flatten": "(library, name, *, limit=10000)"},
    "librarytext": {"format_library": "(library)", "parse_library": "(text)"},
    "rules": {"is_rule": "(rule)", "reach": "(rule)", "marks": "(layout, rule)"},
    "checking": {
        "check": "(layout, deck)", "is_kept": "(layout, deck)", "marked_at": "(layout, deck, x, y)",
        "recheck": "(layout, deck, found, *, window)",
    },
    "wiring": {"conductor": "(layout, layer)", "connect": "(layout)"},
    "transistors": {
        "channels": "(layout)", "is_well_formed": "(layout, channel)", "transistor": "(layout, wiring, channel)",
    },
    "extracting": {"extract": "(layout)"},
    "reducing": {"merged": "(circuit)", "pruned": "(circuit)", "renumbered": "(circuit, order)"},
    "circuittext": {"format_circuit": "(circuit)", "parse_circuit": "(text)"},
    "matching": {"is_match": "(first, second, match)"},
    "colours": {
        "net_classes": "(first, second, bonds, step)", "device_classes": "(first, second, bonds, step)",
        "is_balanced": "(first, second, bonds, step)",
    },
    "comparing": {
        "is_difference": "(first, second, difference)", "compare": "(first, second, *, limit=1000)",
        "are_same": "(first, second, *, limit=1000)",
    },
    "outlines": {"outlines": "(region)", "signed_area": "(loop)", "is_outer": "(loop)", "filled": "(loops)"},
    "routing": {
        "is_open": "(layout, wiring, nets, window, gap, x, y)",
        "wire": "(layout, first, second, *, window, gap=1, limit=2000)",
        "is_barrier": "(layout, first, second, region, *, window, gap=1)", "joined": "(layout, squares)",
    },
    "signoff": {"sign_off": "(library, name, deck, schematic, *, limit=1000)"},
    "decks": {"expression_depth": "(expression)"},
    "deriving": {
        "evaluate": "(expression, regions)", "derived": "(layout, deck)", "check_deck": "(layout, deck)",
    },
    "decktext": {"format_deck": "(deck)", "parse_deck": "(text)"},
    "schematics": {"own_nets": "(block)"},
    "expanding": {"expand": "(schematic, name)"},
    "schematictext": {"format_schematic": "(schematic)", "parse_schematic": "(text)"},
    "behaviour": {
        "next_values": "(circuit, fixed, values)", "settle": "(circuit, fixed)", "table": "(circuit, inputs, output)",
    },
    "netrules": {
        "is_net_rule": "(rule)", "net_marks": "(layout, wiring, rule)", "check_nets": "(layout, rules)",
    },
    "packing": {
        "are_near": "(first, second, gap)", "is_before": "(first, second, gap)", "pack": "(boxes, *, gap=1, wall=0)",
        "tight_chain": "(boxes, index, *, gap=1, wall=0)", "pack_cell": "(library, name, *, gap=1)",
    },
    "coupling": {
        "coupling": "(wiring, first, second)", "couplings": "(wiring)", "facing": "(wiring, first, second, n)",
    },
    "telling": {"tell": "(answer)"},
}

METHODS = {
    Layout: {
        "__init__": "(self, shapes, labels)", "region": "(self, layer)", "moved": "(self, move)", "shapes": "(self)",
        "__eq__": "(self, other)",
    },
    Cell: {"__init__": "(self, name, shapes, labels, placements)"},
    Library: {
        "__init__": "(self, cells)", "cell": "(self, name)", "shape_count": "(self, name)",
        "label_count": "(self, name)", "depth": "(self, name)",
    },
    Store: {
        "__init__": "(self)", "__len__": "(self)", "add": "(self, layer, box)", "remove": "(self, number)",
        "shape": "(self, number)", "find": "(self, layer, window)", "find_square": "(self, layer, x, y)",
        "numbers": "(self)", "undo": "(self)", "redo": "(self)", "back_to": "(self, mark)", "layout": "(self)",
    },
    Tree: {"__init__": "(self, rows)", "find": "(self, window)", "depth": "(self)"},
    Wiring: {
        "__len__": "(self)", "parts": "(self, net)", "net_at": "(self, layer, x, y)", "region": "(self, net, layer)",
        "names_on": "(self, net)", "loose": "(self)", "shorted": "(self)", "split": "(self)",
    },
    Circuit: {
        "__init__": "(self, net_count, names, devices)", "name_of": "(self, net)", "devices_at": "(self, net)",
        "__eq__": "(self, other)",
    },
    Report: {"text": "(self)"},
    Deck: {"__init__": "(self, definitions, rules)"},
    Block: {"__init__": "(self, name, ports, devices, uses)"},
    Schematic: {
        "__init__": "(self, blocks)", "block": "(self, name)", "device_count": "(self, name)",
        "count_nets": "(self, name)", "use_count": "(self, name)",
    },
}

PROPERTIES = {Library: ["cell_names"], Store: ["mark"], Report: ["is_clean"], Schematic: ["block_names"]}

MODULES = {
    Layout: "layouts", Cell: "cells", Library: "cells", Store: "stores", Tree: "trees", Wiring: "wiring",
    Circuit: "circuits", Report: "signoff", Deck: "decks", Block: "schematics", Schematic: "schematics",
}

# The files that define the constants of the interface.
CONSTANTS = {"STAY": "moves", "LAYERS": "layouts", "CONDUCTORS": "wiring"}


class Interface(unittest.TestCase):
    def test_functions(self):
        for file, functions in FUNCTIONS.items():
            module = importlib.import_module(f"reticle.{file}")
            for name, arguments in functions.items():
                function = getattr(module, name)
                self.assertEqual(str(inspect.signature(function)), arguments, name)
                self.assertEqual(function.__module__, f"reticle.{file}")

    def test_methods_stand_in_the_class_itself(self):
        for kind, methods in METHODS.items():
            for name, arguments in methods.items():
                self.assertEqual(str(inspect.signature(vars(kind)[name])), arguments, (kind, name))

    def test_properties(self):
        for kind, names in PROPERTIES.items():
            for name in names:
                self.assertIsInstance(vars(kind)[name], property)

    def test_classes_are_defined_in_their_files(self):
        for kind, file in MODULES.items():
            self.assertEqual(kind.__module__, f"reticle.{file}")

    def test_fields_are_set_when_an_object_is_created(self):
        self.assertIn("labels", vars(Layout([], [])))
        for field in ("name", "shapes", "labels", "placements"):
            self.assertIn(field, vars(Cell("a", [], [], [])))
        for field in ("net_count", "names", "devices"):
            self.assertIn(field, vars(Circuit(0, [], [])))
        for field in ("definitions", "rules"):
            self.assertIn(field, vars(Deck([], [])))
        for field in ("name", "ports", "devices", "uses"):
            self.assertIn(field, vars(Block("a", [], [], [])))
        report = sign_off(Library([Cell("a", [], [], [])]), "a", [], Circuit(0, [], []))
        for field in ("marks", "circuit", "schematic", "answer"):
            self.assertIn(field, vars(report))

    def test_constants_are_assigned_in_their_files(self):
        for name, file in CONSTANTS.items():
            module = importlib.import_module(f"reticle.{file}")
            self.assertIsInstance(getattr(module, name), tuple)
            self.assertIn(f"\n{name} = (", inspect.getsource(module))


if __name__ == "__main__":
    unittest.main()
