"""Point 37: circuits."""

import unittest

from reticle.circuits import Circuit
from reticle.errors import InvalidCircuit
from tests.helpers import HUGE

DEVICES = [("n", 0, 1, 2, 4, 2), ("p", 3, 0, 0, 1, 1), ("n", 1, 1, 1, HUGE, HUGE), ("n", 0, 1, 2, 4, 2)]

NAMES = [(2, "b"), (0, "longestname1"), (1, "a9")]


def refused(case, net_count, names, devices):
    """Checks that a circuit is refused, with the one error and without any change."""
    copies = (list(names), list(devices))
    with case.assertRaises(InvalidCircuit) as caught:
        Circuit(net_count, names, devices)
    case.assertIs(type(caught.exception), InvalidCircuit)
    case.assertEqual((names, devices), copies)


class Fields(unittest.TestCase):
    def test_fields(self):
        circuit = Circuit(4, NAMES, DEVICES)
        self.assertEqual(circuit.net_count, 4)
        self.assertEqual(circuit.names, ((0, "longestname1"), (1, "a9"), (2, "b")))
        self.assertEqual(circuit.devices, tuple(DEVICES))
        self.assertIsInstance(circuit.names, tuple)
        self.assertIsInstance(circuit.devices, tuple)

    def test_lists_are_copied(self):
        names, devices = list(NAMES), list(DEVICES)
        circuit = Circuit(4, names, devices)
        names.append((3, "z"))
        devices.clear()
        self.assertEqual(circuit, Circuit(4, NAMES, DEVICES))
        self.assertIsNone(circuit.name_of(3))
        self.assertEqual(len(circuit.devices), 4)

    def test_lists_are_not_changed(self):
        names, devices = list(NAMES), list(DEVICES)
        Circuit(4, names, devices)
        self.assertEqual((names, devices), (NAMES, DEVICES))

    def test_nothing(self):
        circuit = Circuit(0, [], [])
        self.assertEqual((circuit.net_count, circuit.names, circuit.devices), (0, (), ()))

    def test_as_much_as_there_may_be(self):
        circuit = Circuit(200, [(net, f"n{net}") for net in range(200)], [("p", 199, 198, 199, 1, 1)] * 200)
        self.assertEqual(len(circuit.names), 200)
        self.assertEqual(circuit.devices_at(198), list(range(200)))


class Refusing(unittest.TestCase):
    def test_number_of_nets(self):
        refused(self, -1, [], [])
        refused(self, 201, [], [])
        refused(self, -HUGE, [], [])
        refused(self, HUGE, [], [])

    def test_number_of_devices(self):
        refused(self, 4, [], [("n", 0, 1, 2, 1, 1)] * 201)

    def test_nets_of_names(self):
        for net in (-1, 4, HUGE):
            refused(self, 4, [(0, "a"), (net, "b")], [])
        refused(self, 0, [(0, "a")], [])

    def test_a_net_named_twice(self):
        refused(self, 4, [(0, "a"), (0, "b")], [])
        refused(self, 4, [(3, "c"), (0, "a"), (2, "x"), (3, "b")], [])

    def test_a_name_twice(self):
        refused(self, 4, [(0, "a"), (1, "a")], [])
        refused(self, 4, [(0, "a"), (0, "a")], [])

    def test_names(self):
        for name in ["", "A", "1a", "a_", "a b", "longestname12", "a-", "aB"]:
            refused(self, 4, [(0, name)], [])

    def test_kinds(self):
        for kind in ["", "N", "P", "np", "x", "nmos", "n "]:
            refused(self, 4, [], [(kind, 0, 1, 2, 1, 1)])

    def test_nets_of_devices(self):
        for net in (-1, 4, HUGE):
            refused(self, 4, [], [("n", net, 1, 2, 1, 1)])
        for net in (4, 5, HUGE):
            refused(self, 4, [], [("n", 0, 1, net, 1, 1)])
            refused(self, 4, [], [("n", 0, net, net, 1, 1)])
        refused(self, 4, [], [("n", 0, -1, 2, 1, 1)])
        refused(self, 4, [], [("n", 0, -1, -1, 1, 1)])
        refused(self, 0, [], [("n", 0, 0, 0, 1, 1)])

    def test_order_of_ends(self):
        refused(self, 4, [], [("n", 0, 2, 1, 1, 1)])
        Circuit(4, [], [("n", 0, 2, 2, 1, 1)])

    def test_width_and_length(self):
        for number in (0, -1, -HUGE):
            refused(self, 4, [], [("n", 0, 1, 2, number, 1)])
            refused(self, 4, [], [("n", 0, 1, 2, 1, number)])

    def test_a_later_part_is_wrong(self):
        refused(self, 4, NAMES, DEVICES + [("n", 0, 1, 2, 0, 1)])
        refused(self, 4, NAMES + [(3, "b")], DEVICES)


class Asking(unittest.TestCase):
    def test_name_of(self):
        circuit = Circuit(4, NAMES, [])
        self.assertEqual([circuit.name_of(net) for net in range(4)], ["longestname1", "a9", "b", None])

    def test_devices_at(self):
        circuit = Circuit(5, [], DEVICES)
        self.assertEqual(circuit.devices_at(0), [0, 1, 3])
        self.assertEqual(circuit.devices_at(1), [0, 2, 3])
        self.assertEqual(circuit.devices_at(2), [0, 3])
        self.assertEqual(circuit.devices_at(3), [1])
        self.assertEqual(circuit.devices_at(4), [])

    def test_widths_and_lengths_are_no_nets(self):
        self.assertEqual(Circuit(9, [], [("n", 0, 1, 2, 7, 8)]).devices_at(7), [])
        self.assertEqual(Circuit(9, [], [("n", 0, 1, 2, 7, 8)]).devices_at(8), [])

    def test_new_lists(self):
        circuit = Circuit(4, [], DEVICES)
        circuit.devices_at(0).append("x")
        self.assertEqual(circuit.devices_at(0), [0, 1, 3])


class Equal(unittest.TestCase):
    def test_equal(self):
        circuit = Circuit(4, NAMES, DEVICES)
        self.assertIs(circuit == Circuit(4, NAMES[::-1], list(DEVICES)), True)
        self.assertIs(circuit == circuit, True)
        self.assertIs(circuit != Circuit(4, NAMES, DEVICES), False)
        self.assertIs(Circuit(0, [], []) == Circuit(0, [], []), True)

    def test_each_field_counts(self):
        circuit = Circuit(4, NAMES, DEVICES)
        self.assertIs(circuit == Circuit(5, NAMES, DEVICES), False)
        self.assertIs(circuit == Circuit(4, NAMES[1:], DEVICES), False)
        self.assertIs(circuit == Circuit(4, NAMES, DEVICES[1:]), False)
        self.assertIs(circuit == Circuit(4, NAMES, DEVICES[::-1]), False)
        self.assertIs(circuit != Circuit(4, [], DEVICES), True)

    def test_other_kinds_of_values(self):
        self.assertIs(Circuit(0, [], []) == (0, (), ()), False)


if __name__ == "__main__":
    unittest.main()
