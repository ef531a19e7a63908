"""Points 38 and 39, and numbering anew: merging, pruning, renumbering."""

import random
import unittest

from reticle.circuits import Circuit
from reticle.reducing import merged, pruned, renumbered
from tests.helpers import HUGE, random_circuit


def random_circuits(count, seed=1):
    """Circuits of several sizes, with many devices in parallel."""
    source = random.Random(seed)
    return [random_circuit(source, source.randint(1, 8), source.randint(0, 8), sizes=2, names=source.randint(0, 3))
            for _ in range(count)]


def plainly_merged(circuit):
    """Point 38, device by device."""
    devices = []
    for at, device in enumerate(circuit.devices):
        parallel = [other for other in circuit.devices if other[:4] + other[5:] == device[:4] + device[5:]]
        earlier = [other for other in circuit.devices[:at] if other[:4] + other[5:] == device[:4] + device[5:]]
        if not earlier:
            devices.append((*device[:4], sum(other[4] for other in parallel), device[5]))
    return Circuit(circuit.net_count, list(circuit.names), devices)


class Merged(unittest.TestCase):
    def test_example(self):
        circuit = Circuit(3, [], [("n", 0, 1, 2, 4, 2), ("p", 0, 1, 2, 4, 2), ("n", 0, 1, 2, 3, 2)])
        self.assertEqual(merged(circuit).devices, (("n", 0, 1, 2, 7, 2), ("p", 0, 1, 2, 4, 2)))
        self.assertIsInstance(merged(circuit), Circuit)

    def test_against_each_device(self):
        for circuit in random_circuits(200):
            self.assertEqual(merged(circuit), plainly_merged(circuit))

    def test_at_the_position_of_the_first(self):
        other = ("p", 0, 0, 1, 1, 1)
        circuit = Circuit(3, [(1, "a")], [other, ("n", 0, 1, 2, 5, 3), ("n", 2, 1, 2, 5, 3), ("n", 0, 1, 2, 1, 3), other])
        self.assertEqual(merged(circuit).devices, (("p", 0, 0, 1, 2, 1), ("n", 0, 1, 2, 6, 3), ("n", 2, 1, 2, 5, 3)))
        self.assertEqual((merged(circuit).net_count, merged(circuit).names), (3, ((1, "a"),)))

    def test_what_stays_apart(self):
        device = ("n", 0, 1, 2, 5, 3)
        for other in [("p", 0, 1, 2, 5, 3), ("n", 1, 1, 2, 5, 3), ("n", 0, 0, 2, 5, 3), ("n", 0, 1, 3, 5, 3),
                      ("n", 0, 1, 2, 5, 4), ("n", 0, 1, 1, 5, 3)]:
            self.assertEqual(merged(Circuit(4, [], [device, other])).devices, (device, other))

    def test_long_widths(self):
        wide = 10 ** 20 - 1
        circuit = Circuit(2, [], [("n", 0, 0, 1, wide, 1), ("n", 0, 0, 1, wide, 1), ("n", 0, 0, 1, HUGE, 1)])
        self.assertEqual(merged(circuit).devices, (("n", 0, 0, 1, 2 * wide + HUGE, 1),))

    def test_many(self):
        circuit = Circuit(1, [], [("n", 0, 0, 0, 3, 2)] * 200)
        self.assertEqual(merged(circuit).devices, (("n", 0, 0, 0, 600, 2),))

    def test_twice(self):
        for circuit in random_circuits(50, seed=2):
            self.assertEqual(merged(merged(circuit)), merged(circuit))

    def test_the_circuit_stays(self):
        for circuit in random_circuits(20, seed=3):
            copy = Circuit(circuit.net_count, list(circuit.names), list(circuit.devices))
            self.assertIsNot(merged(circuit), circuit)
            self.assertEqual(circuit, copy)


class Pruned(unittest.TestCase):
    def test_unused_nets_everywhere(self):
        circuit = Circuit(9, [(1, "b"), (7, "a")], [("n", 5, 3, 3, 1, 1)])
        self.assertEqual(pruned(circuit), Circuit(4, [(0, "b"), (3, "a")], [("n", 2, 1, 1, 1, 1)]))
        self.assertIsInstance(pruned(circuit), Circuit)

    def test_each_way_to_be_used(self):
        self.assertEqual(pruned(Circuit(3, [(1, "a")], [])), Circuit(1, [(0, "a")], []))
        self.assertEqual(pruned(Circuit(4, [], [("n", 0, 1, 3, 1, 1)])), Circuit(3, [], [("n", 0, 1, 2, 1, 1)]))
        self.assertEqual(pruned(Circuit(4, [], [("n", 3, 1, 1, 1, 1)])), Circuit(2, [], [("n", 1, 0, 0, 1, 1)]))

    def test_nothing_used(self):
        self.assertEqual(pruned(Circuit(200, [], [])), Circuit(0, [], []))
        self.assertEqual(pruned(Circuit(0, [], [])), Circuit(0, [], []))

    def test_all_used(self):
        circuit = Circuit(3, [(2, "z")], [("p", 0, 1, 1, 3, 4)])
        self.assertEqual(pruned(circuit), circuit)

    def test_widths_and_lengths_are_no_nets(self):
        circuit = Circuit(9, [], [("n", 0, 0, 0, 5, 6)])
        self.assertEqual(pruned(circuit), Circuit(1, [], [("n", 0, 0, 0, 5, 6)]))

    def test_against_each_net(self):
        for circuit in random_circuits(200, seed=4):
            used = [net for net in range(circuit.net_count) if circuit.name_of(net) or circuit.devices_at(net)]
            number = used.index
            devices = [(kind, number(gate), number(end), number(other), width, length)
                       for kind, gate, end, other, width, length in circuit.devices]
            expected = Circuit(len(used), [(number(net), name) for net, name in circuit.names], devices)
            self.assertEqual(pruned(circuit), expected)
            self.assertEqual(pruned(expected), expected)

    def test_the_circuit_stays(self):
        for circuit in random_circuits(20, seed=5):
            copy = Circuit(circuit.net_count, list(circuit.names), list(circuit.devices))
            self.assertIsNot(pruned(circuit), circuit)
            self.assertEqual(circuit, copy)


class Renumbered(unittest.TestCase):
    def test_by_hand(self):
        circuit = Circuit(3, [(0, "a"), (1, "b")], [("n", 0, 1, 2, 4, 5), ("p", 2, 0, 0, 1, 1)])
        self.assertEqual(renumbered(circuit, [2, 1, 0]),
                         Circuit(3, [(2, "a"), (1, "b")], [("n", 2, 0, 1, 4, 5), ("p", 0, 2, 2, 1, 1)]))
        self.assertEqual(renumbered(circuit, [1, 2, 0]).devices, (("n", 1, 0, 2, 4, 5), ("p", 0, 1, 1, 1, 1)))
        self.assertEqual(renumbered(circuit, [0, 1, 2]), circuit)

    def test_there_and_back(self):
        source = random.Random(6)
        for circuit in random_circuits(60, seed=7):
            order = list(range(circuit.net_count))
            source.shuffle(order)
            copy = list(order)
            inverse = [order.index(net) for net in range(circuit.net_count)]
            other = renumbered(circuit, order)
            self.assertEqual(renumbered(other, inverse), circuit)
            self.assertEqual(order, copy)
            self.assertEqual([other.name_of(order[net]) for net in range(circuit.net_count)],
                             [circuit.name_of(net) for net in range(circuit.net_count)])

    def test_nothing(self):
        self.assertEqual(renumbered(Circuit(0, [], []), []), Circuit(0, [], []))

    def test_the_circuit_stays(self):
        circuit = Circuit(2, [(0, "a")], [("n", 0, 0, 1, 1, 1)])
        renumbered(circuit, [1, 0])
        self.assertEqual(circuit, Circuit(2, [(0, "a")], [("n", 0, 0, 1, 1, 1)]))


if __name__ == "__main__":
    unittest.main()
