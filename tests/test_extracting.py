"""Points 35, 36 and 55: extracting circuits."""

import random
import unittest

from reticle.circuits import Circuit
from reticle.errors import BadChannel, InvalidCircuit, Shorted, Split
from reticle.extracting import extract
from reticle.layouts import Layout
from reticle.moves import move_square
from reticle.wiring import CONDUCTORS, connect
from tests.helpers import HUGE, TURN_COUNT, cut_shapes, random_shapes

ACROSS = [("active", (0, 0, 6, 2)), ("poly", (2, -1, 4, 3))]

BAD = [("active", (100, 0, 106, 2)), ("poly", (102, 0, 104, 1))]

# An inverter: below a transistor "n" between "gnd" and "y", above a transistor "p" between "y" and "vdd".
INVERTER = [
    ("well", (-2, 9, 12, 20)), ("active", (0, 0, 10, 3)), ("active", (0, 10, 10, 16)), ("poly", (4, -1, 6, 17)),
    ("contact", (1, 1, 2, 2)), ("contact", (1, 12, 2, 13)), ("contact", (8, 1, 9, 2)), ("contact", (8, 12, 9, 13)),
    ("metal", (0, 0, 3, 3)), ("metal", (0, 11, 3, 14)), ("metal", (7, 0, 10, 14)),
    ("via", (8, 6, 9, 7)), ("top", (8, 6, 30, 7)),
]

INVERTER_LABELS = [("gnd", "metal", 0, 0), ("vdd", "metal", 1, 12), ("a", "poly", 5, 8), ("y", "top", 29, 6)]


def transistor_rows(count, step=20):
    """The shapes of transistors that stand side by side."""
    return [(layer, (x0 + step * at, y0, x1 + step * at, y1)) for at in range(count) for layer, (x0, y0, x1, y1) in ACROSS]


def raised(layout):
    """The error that extracting raises."""
    try:
        extract(layout)
    except (BadChannel, Shorted, Split, InvalidCircuit) as error:
        return error
    return None


class Extract(unittest.TestCase):
    def test_examples(self):
        circuit = extract(Layout(ACROSS, [("g", "poly", 2, -1)]))
        self.assertEqual(circuit.devices, (("n", 2, 0, 1, 2, 2),))
        self.assertIsInstance(circuit, Circuit)
        self.assertEqual(circuit, Circuit(3, [(2, "g")], [("n", 2, 0, 1, 2, 2)]))
        error = raised(Layout([("active", (0, 0, 6, 2)), ("poly", (2, 0, 4, 1))], []))
        self.assertIs(type(error), BadChannel)
        self.assertEqual(error.region, ((2, 0, 4, 1),))

    def test_nothing(self):
        self.assertEqual(extract(Layout([], [])), Circuit(0, [], []))
        self.assertEqual(extract(Layout([("well", (0, 0, 9, 9)), ("via", (0, 0, 1, 1))], [("a", "top", 0, 0)])),
                         Circuit(0, [], []))

    def test_inverter(self):
        circuit = extract(Layout(INVERTER, INVERTER_LABELS))
        # The nets: of "active" below to the left and to the right, above to the left, and of "poly".
        self.assertEqual(circuit, Circuit(4, [(0, "gnd"), (1, "y"), (2, "vdd"), (3, "a")],
                                          [("n", 3, 0, 1, 3, 2), ("p", 3, 1, 2, 6, 2)]))

    def test_nets_are_those_of_the_wiring(self):
        source = random.Random(1)
        layers = ["active", "contact", "metal", "via", "top"]
        for _ in range(20):
            layout = Layout(random_shapes(source, layers), [("a", "metal", 0, 0)])
            wiring = connect(layout)
            names = [(net, "a") for net in range(len(wiring)) if wiring.names_on(net)]
            self.assertEqual(extract(layout), Circuit(len(wiring), names, []))

    def test_transistors_in_the_order_of_their_channels(self):
        shapes = [("active", (0, 5, 6, 7)), ("poly", (2, 4, 4, 8)), ("active", (9, 0, 12, 9)), ("poly", (8, 3, 13, 4))]
        self.assertEqual(extract(Layout(shapes, [])).devices, (("n", 4, 0, 1, 3, 1), ("n", 5, 2, 3, 2, 2)))

    def test_loose_labels_name_nothing(self):
        circuit = extract(Layout(ACROSS, [("a", "metal", 2, 0), ("g", "poly", 2, 0), ("g", "active", 2, 0)]))
        self.assertEqual(circuit.names, ((2, "g"),))

    def test_layout_stays(self):
        layout = Layout(INVERTER, INVERTER_LABELS)
        extract(layout)
        self.assertEqual(layout, Layout(INVERTER, INVERTER_LABELS))


class Refusing(unittest.TestCase):
    def test_first_bad_channel(self):
        shapes = ACROSS + BAD + [("active", (50, -9, 56, -7)), ("poly", (52, -9, 54, -8))]
        self.assertEqual(raised(Layout(shapes, [])).region, ((52, -9, 54, -8),))
        self.assertEqual(raised(Layout(ACROSS + BAD, [])).region, ((102, 0, 104, 1),))

    def test_shorted(self):
        labels = [("c", "metal", 0, 0), ("b", "metal", 1, 0), ("a", "metal", 2, 0), ("b", "metal", 2, 0)]
        labels += [("x", "top", 0, 0), ("w", "top", 1, 0)]
        error = raised(Layout([("metal", (0, 0, 9, 1)), ("top", (0, 0, 9, 1))], labels))
        self.assertIs(type(error), Shorted)
        self.assertEqual(error.names, ["a", "b", "c"])

    def test_the_first_shorted_net(self):
        labels = [("a", "top", 0, 0), ("b", "top", 1, 0), ("y", "poly", 0, 0), ("z", "poly", 0, 0)]
        self.assertEqual(raised(Layout([("poly", (0, 0, 9, 1)), ("top", (0, 0, 9, 1))], labels)).names, ["y", "z"])

    def test_split(self):
        labels = [("c", "metal", 0, 0), ("c", "top", 0, 0), ("b", "metal", 5, 5), ("b", "top", 5, 5), ("a", "metal", 9, 9)]
        shapes = [(layer, (x, x, x + 1, x + 1)) for layer in ("metal", "top") for x in (0, 5, 9)]
        error = raised(Layout(shapes, labels))
        self.assertIs(type(error), Split)
        self.assertEqual(error.name, "b")

    def test_the_order_of_the_errors(self):
        strips = [("metal", (0, 50 + 2 * at, 9, 51 + 2 * at)) for at in range(201)]
        bad, shorted = BAD, [("a", "metal", 0, 50), ("b", "metal", 1, 50)]
        split = [("c", "metal", 0, 52), ("c", "metal", 0, 54)]
        self.assertIs(type(raised(Layout(bad + strips, shorted + split))), BadChannel)
        self.assertIs(type(raised(Layout(bad, shorted))), BadChannel)
        self.assertIs(type(raised(Layout(strips, shorted + split))), Shorted)
        self.assertIs(type(raised(Layout(strips, split))), Split)
        self.assertIs(type(raised(Layout(strips, []))), InvalidCircuit)

    def test_two_hundred_nets(self):
        strips = [("metal", (0, 2 * at, 9, 2 * at + 1)) for at in range(201)]
        self.assertEqual(extract(Layout(strips[:200], [])).net_count, 200)
        self.assertIs(type(raised(Layout(strips, []))), InvalidCircuit)

    def test_two_hundred_devices(self):
        # "metal" with contacts makes all gates and ends one net.
        for count in (200, 201):
            shapes = [("active", (0, 0, 4 * count + 2, 2))]
            shapes += [("poly", (4 * at + 1, -1, 4 * at + 2, 3)) for at in range(count)]
            bridge = [("metal", (0, 0, 4 * count + 2, 1)), ("contact", (0, 0, 4 * count + 2, 1))]
            self.assertIs(type(raised(Layout(shapes, []))), InvalidCircuit)
            if count == 200:
                circuit = extract(Layout(shapes + bridge, []))
                self.assertEqual((circuit.net_count, circuit.devices), (1, (("n", 0, 0, 0, 2, 1),) * 200))
            else:
                self.assertIs(type(raised(Layout(shapes + bridge, []))), InvalidCircuit)

    def test_many_transistors(self):
        self.assertEqual(len(extract(Layout(transistor_rows(66), [])).devices), 66)
        self.assertIs(type(raised(Layout(transistor_rows(67), []))), InvalidCircuit)


class WhatTheCircuitDependsOn(unittest.TestCase):
    def layouts(self):
        """Shapes whose channels are well formed."""
        rows = transistor_rows(4, step=9) + [("well", (8, -3, 17, 9)), ("metal", (0, 0, 12, 1)),
                                             ("contact", (5, 0, 6, 1)), ("contact", (10, 0, 11, 1))]
        return [INVERTER, ACROSS, rows, ACROSS + [("poly", (2, -1, 30, 0)), ("active", (20, -5, 22, 5))]]

    def test_shapes_cut_otherwise(self):
        source = random.Random(2)
        for shapes in self.layouts():
            for _ in range(5):
                self.assertEqual(extract(Layout(cut_shapes(source, shapes), [])), extract(Layout(shapes, [])))

    def test_moved_layouts(self):
        for shapes in self.layouts():
            layout = Layout(shapes, [("gnd", "active", 0, 0)])
            for turn in range(TURN_COUNT):
                self.same_up_to_numbers(layout, (turn, 7, -HUGE))

    def same_up_to_numbers(self, layout, move):
        first, second = extract(layout), extract(layout.moved(move))
        nets = self.partners(layout, move)
        self.assertEqual(sorted(nets.values()), list(range(second.net_count)))
        self.assertEqual({(nets[net], name) for net, name in first.names}, set(second.names))
        devices = []
        for kind, gate, end, other, width, length in first.devices:
            devices.append((kind, nets[gate], *sorted([nets[end], nets[other]]), width, length))
        self.assertEqual(sorted(devices), sorted(second.devices))

    def partners(self, layout, move):
        """For each net the one that its places have in the moved layout."""
        wiring, moved, nets = connect(layout), connect(layout.moved(move)), {}
        for layer in CONDUCTORS:
            for x in range(-3, 35):
                for y in range(-6, 20):
                    net = wiring.net_at(layer, x, y)
                    if net is not None:
                        nets[net] = moved.net_at(layer, *move_square(move, x, y))
        return nets

    def test_huge(self):
        far = [(layer, (x0 + HUGE, y0 - HUGE, x1 + HUGE, y1 - HUGE)) for layer, (x0, y0, x1, y1) in INVERTER]
        self.assertEqual(extract(Layout(far, [])), extract(Layout(INVERTER, [])))


if __name__ == "__main__":
    unittest.main()
