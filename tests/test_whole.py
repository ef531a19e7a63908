"""Points 1, 2, 55 and 56 over the whole program: its parts together, and what their answers depend on."""

import random
import unittest

from reticle.behaviour import table
from reticle.cells import Cell, Library
from reticle.checking import check
from reticle.comparing import are_same, compare
from reticle.coupling import couplings, facing
from reticle.decktext import format_deck, parse_deck
from reticle.deriving import check_deck
from reticle.errors import NoWire
from reticle.expanding import expand
from reticle.extracting import extract
from reticle.flattening import flatten
from reticle.layouts import LAYERS, Layout
from reticle.librarytext import format_library, parse_library
from reticle.matching import is_match
from reticle.moves import inverse, move_box, move_square
from reticle.netrules import check_nets
from reticle.outlines import filled, outlines
from reticle.packing import pack_cell
from reticle.reducing import merged, pruned
from reticle.regions import move_region
from reticle.routing import joined, wire
from reticle.schematictext import parse_schematic
from reticle.signoff import sign_off
from reticle.telling import tell
from reticle.wiring import CONDUCTORS, connect
from tests.helpers import GATES, HUGE, TURN_COUNT, cut_shapes, drawn, mixed_up, random_circuit, random_move, random_shapes

RULES = [
    ("width", "metal", 2), ("space", "top", 3), ("apart", "poly", "metal", 1), ("cover", "contact", "metal", 1),
    ("area", "active", 9), ("size", "via", 1, 1), ("never", "poly", "active"),
]

NET_RULES = [("strangers", "metal", 2), ("antenna", "poly", 1), ("tied", "top")]

DECK = parse_deck("layer gate active and poly\nlayer ring grow 2 gate minus ( gate or well )\n"
                  "layer far shrink 1 ( metal odd top ) minus open 2 ring\n"
                  "rule width gate 2\nrule never ring metal\nrule area far 5\nrule apart far gate 3")


def answers(layout):
    """What the program says of a layout, as far as it does not speak of labels."""
    wiring = connect(layout)
    nets = range(len(wiring))
    return [
        [layout.region(layer) for layer in LAYERS], check(layout, RULES), check_deck(layout, DECK),
        check_nets(layout, NET_RULES),
        [wiring.parts(net) for net in nets], couplings(wiring), [facing(wiring, net, net + 1, 3) for net in nets[:-1]],
        [outlines(layout.region(layer)) for layer in LAYERS],
    ]


def nested(source, shapes):
    """A library whose last cell has all shapes: each part of them lies in a cell, and some also in the last one."""
    cells, placements = [], []
    for at, (layer, box) in enumerate(cut_shapes(source, shapes)):
        move = random_move(source)
        cells.append(Cell(f"c{at}", [(layer, move_box(inverse(move), box))], [], []))
        placements.append((f"c{at}", move, 1, 1, 0, 0))
    return Library([*cells, Cell("top", [shape for shape in shapes if source.random() < 0.3], [], placements)])


class WhatTheAnswersDependOn(unittest.TestCase):
    def test_shapes_cut_overlapped_and_ordered_otherwise(self):
        source = random.Random(1)
        for _ in range(10):
            shapes = random_shapes(source, LAYERS, most=3)
            self.assertEqual(answers(Layout(cut_shapes(source, shapes), [])), answers(Layout(shapes, [])))

    def test_shapes_nested_otherwise(self):
        source = random.Random(2)
        for _ in range(10):
            shapes = random_shapes(source, CONDUCTORS, most=3)
            library = nested(source, shapes)
            for found in (flatten(library, "top"), flatten(parse_library(format_library(library)), "top")):
                self.assertEqual(found, Layout(shapes, []))
                self.assertEqual(answers(found), answers(Layout(shapes, [])))

    def test_moved_layouts(self):
        source = random.Random(3)
        for turn in range(TURN_COUNT):
            shapes, move = random_shapes(source, LAYERS, most=3), (turn, HUGE, -HUGE)
            layout = Layout(shapes, [])
            moved = layout.moved(move)
            for ask, rules in [(check, RULES), (check_deck, DECK), (check_nets, NET_RULES)]:
                self.assertEqual(ask(moved, rules), [move_region(move, region) for region in ask(layout, rules)])

    def test_far_away_layouts(self):
        # A shift keeps all orders, and with them the numbers of nets.
        source = random.Random(4)
        for _ in range(6):
            shapes, move = random_shapes(source, LAYERS, most=3), (0, HUGE, HUGE)
            near, far = answers(Layout(shapes, [])), answers(Layout(shapes, []).moved(move))
            for at in (1, 2, 3):
                self.assertEqual(far[at], [move_region(move, region) for region in near[at]])
            parts = [[(layer, move_region(move, region)) for layer, region in net] for net in near[4]]
            self.assertEqual([far[4], far[5], far[6]], [parts, near[5], near[6]])

    def test_outlines_give_the_regions_back(self):
        source = random.Random(5)
        for _ in range(10):
            layout = Layout(random_shapes(source, LAYERS), [])
            for layer in LAYERS:
                self.assertEqual(filled(outlines(layout.region(layer))), layout.region(layer))


class CircuitsThroughLayouts(unittest.TestCase):
    def test_drawn_circuits_are_extracted_again(self):
        source = random.Random(6)
        for _ in range(30):
            circuit = random_circuit(source, source.randint(1, 8), source.randint(0, 8), sizes=3, names=3)
            found = extract(Layout(*drawn(circuit)))
            word, match = compare(found, circuit)
            self.assertEqual(word, "same")
            self.assertIs(is_match(found, circuit, match), True)

    def test_the_same_exactly_if_they_match(self):
        source = random.Random(7)
        for _ in range(30):
            first = random_circuit(source, 4, 4, names=1)
            second = random_circuit(source, 4, 4, names=1) if source.random() < 0.5 else mixed_up(source, first)[0]
            self.assertIs(are_same(extract(Layout(*drawn(first))), second), are_same(first, second))

    def test_turned_circuits(self):
        source = random.Random(8)
        for turn in range(TURN_COUNT):
            circuit = random_circuit(source, 5, 5, names=2)
            layout = Layout(*drawn(circuit)).moved((turn, HUGE, 0))
            self.assertIs(are_same(extract(layout), circuit), True)

    def test_gates_from_schematic_to_layout_and_back(self):
        schematic = parse_schematic(GATES)
        for name, inputs, values in [("inv", ["a"], "10"), ("nand", ["a", "b"], "1110"), ("and", ["a", "b"], "0001"),
                                     ("mux", ["s", "a", "b"], "01010011")]:
            circuit = expand(schematic, name)
            library = Library([Cell(name, *drawn(circuit), [])])
            report = sign_off(library, name, RULES[5:6], merged(circuit))
            self.assertIs(report.is_clean, True)
            self.assertEqual(report.text(), "rule 0 0\nsame")
            self.assertEqual(tell(report.answer).split("\n")[0], "same")
            self.assertEqual(table(report.circuit, inputs, "y"), list(values))
            self.assertEqual(table(circuit, inputs, "y"), list(values))
            self.assertEqual(pruned(merged(circuit)), report.schematic)

    def test_packed_gates(self):
        schematic = parse_schematic(GATES)
        inner = Cell("inv", drawn(expand(schematic, "inv"))[0], [], [])
        top = Cell("top", [], [], [("inv", (0, 100, 0), 2, 2, 400, 300), ("inv", (5, -500, 0), 1, 1, 0, 0)])
        library = Library([inner, top])
        packed = Library([inner, pack_cell(library, "top", gap=3)])
        self.assertIs(sign_off(packed, "top", [], extract(flatten(library, "top"))).is_clean, True)
        self.assertEqual(format_library(parse_library(format_library(packed))), format_library(packed))


class Repairing(unittest.TestCase):
    def test_a_missing_wire(self):
        # Two strips belong together. A wire around a third one joins them.
        shapes = [("metal", (0, 0, 3, 1)), ("metal", (8, 0, 11, 1)), ("metal", (5, -3, 6, 3)),
                  ("active", (-9, 10, -3, 12)), ("poly", (-7, 9, -5, 13)), ("metal", (-3, 10, -2, 11))]
        layout = Layout(shapes, [("a", "metal", 0, 0), ("b", "metal", 5, 0)])
        wiring = connect(layout)
        first, second = wiring.net_at("metal", 0, 0), wiring.net_at("metal", 8, 0)
        with self.assertRaises(NoWire):
            wire(layout, first, second, window=(0, -4, 11, 4))
        squares = wire(layout, first, second, window=(-2, -5, 13, 9))
        after = joined(layout, squares)
        before, found = extract(layout), extract(after)
        self.assertEqual(found.net_count, before.net_count - 1)
        self.assertEqual(found.devices, before.devices)
        self.assertEqual(sorted(name for _, name in found.names), ["a", "b"])
        self.assertEqual(check_nets(after, [("strangers", "metal", 1)]), [()])


class Arguments(unittest.TestCase):
    def test_lists_that_are_passed_stay(self):
        shapes, labels = drawn(expand(parse_schematic(GATES), "inv"))
        copies = list(shapes), list(labels)
        layout = Layout(shapes, labels)
        rules, net_rules, deck_text = list(RULES), list(NET_RULES), format_deck(DECK)
        for _ in range(2):
            first = [answers(layout), extract(layout), check(layout, rules), check_nets(layout, net_rules)]
            self.assertEqual([answers(layout), extract(layout), check(layout, rules), check_nets(layout, net_rules)], first)
        self.assertEqual((shapes, labels), copies)
        self.assertEqual((rules, net_rules, format_deck(DECK)), (RULES, NET_RULES, deck_text))

    def test_objects_copy_the_lists(self):
        shapes, labels = [("metal", (0, 0, 3, 1))], [("a", "metal", 0, 0)]
        layout = Layout(shapes, labels)
        cells = [Cell("a", shapes, labels, [])]
        library = Library(cells)
        for part in (shapes, labels, cells):
            part.clear()
        self.assertEqual(layout, flatten(library, "a"))
        self.assertEqual(len(layout.shapes()), 1)

    def test_labels_move_with_their_squares(self):
        layout = Layout([("metal", (0, 0, 3, 1))], [("a", "metal", 2, 0)])
        for turn in range(TURN_COUNT):
            moved = layout.moved((turn, HUGE, 5))
            self.assertEqual(moved.labels, (("a", "metal", *move_square((turn, HUGE, 5), 2, 0)),))
            self.assertEqual(connect(moved).names_on(0), ["a"])


if __name__ == "__main__":
    unittest.main()
