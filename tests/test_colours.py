"""Points 42 and 43: bonds, colours and balance."""

import random
import unittest

from reticle.circuits import Circuit
from reticle.colours import device_classes, is_balanced, net_classes
from tests.helpers import HUGE, mixed_up, random_circuit, rings


def bond_indexes(bonds, side, net):
    """The indexes of the bonds in which a net stands."""
    return [index for index, bond in enumerate(bonds) if bond[side] == net]


def numbered(keys):
    """For each key of a dict a number, the same for equal values."""
    numbers = {}
    return {place: numbers.setdefault(repr(key), len(numbers)) for place, key in keys.items()}


def plain_colours(first, second, bonds, step):
    """Two dicts, from nets and from devices as pairs of a side and an index to their colours: point 42, word by word."""
    circuits = (first, second)
    nets = numbered({(side, net): [circuit.name_of(net), bond_indexes(bonds, side, net)]
                     for side, circuit in enumerate(circuits) for net in range(circuit.net_count)})
    devices = numbered({(side, index): [device[0], device[4], device[5]]
                        for side, circuit in enumerate(circuits) for index, device in enumerate(circuit.devices)})
    for _ in range(step):
        net_keys, device_keys = {}, {}
        for side, net in nets:
            rows = circuits[side].devices
            gates = sorted(devices[side, index] for index, device in enumerate(rows) if device[1] == net)
            ends = sorted(devices[side, index] for index, device in enumerate(rows) for end in device[2:4] if end == net)
            net_keys[side, net] = [nets[side, net], gates, ends]
        for side, index in devices:
            device = circuits[side].devices[index]
            ends = sorted(nets[side, end] for end in device[2:4])
            device_keys[side, index] = [devices[side, index], nets[side, device[1]], ends]
        nets, devices = numbered(net_keys), numbered(device_keys)
    return nets, devices


def plain_classes(colours):
    """The partition of places by their colours."""
    classes = {}
    for place in sorted(colours):
        classes.setdefault(colours[place], []).append(place)
    return sorted(classes.values())


def is_plainly_balanced(colours):
    """Point 43: each colour occurs equally often on both sides."""
    return all(sum(2 * side - 1 for side, _ in places) == 0 for places in plain_classes(colours))


def pairs_of_circuits(count, seed=1):
    """Pairs of circuits, equal ones up to their numbers, nearly equal ones, and others, with bonds."""
    source, found = random.Random(seed), []
    for _ in range(count):
        first = random_circuit(source, source.randint(1, 7), source.randint(0, 8), sizes=source.randint(1, 2),
                               names=source.randint(0, 2))
        second = mixed_up(source, first)[0]
        if source.random() < 0.5:
            second = random_circuit(source, source.randint(1, 7), source.randint(0, 8), names=source.randint(0, 2))
        bonds = [(source.randrange(first.net_count), source.randrange(second.net_count))
                 for _ in range(source.choice([0, 0, 1, 2, 3]))]
        found.append((first, second, bonds))
    return found


class Classes(unittest.TestCase):
    def agree(self, first, second, bonds, step):
        nets, devices = plain_colours(first, second, bonds, step)
        self.assertEqual(net_classes(first, second, bonds, step), plain_classes(nets))
        self.assertEqual(device_classes(first, second, bonds, step), plain_classes(devices))
        balanced = is_plainly_balanced(nets) and is_plainly_balanced(devices)
        self.assertIs(is_balanced(first, second, bonds, step), balanced)

    def test_against_plain_colours(self):
        for first, second, bonds in pairs_of_circuits(120):
            for step in range(6):
                self.agree(first, second, bonds, step)

    def test_all_rounds(self):
        for first, second, bonds in pairs_of_circuits(12, seed=2):
            last = first.net_count + second.net_count + len(first.devices) + len(second.devices)
            for step in (last - 1, last):
                self.agree(first, second, bonds, step)
            for step in (last + 1, last + 7, HUGE):
                self.assertEqual(net_classes(first, second, bonds, step), net_classes(first, second, bonds, last))
                self.assertEqual(device_classes(first, second, bonds, step), device_classes(first, second, bonds, last))
                self.assertIs(is_balanced(first, second, bonds, step), is_balanced(first, second, bonds, last))

    def test_rings(self):
        for first, second in [(rings(6), rings(3, 3)), (rings(4, 3, gate=True), rings(7, gate=True)),
                              (rings(9), rings(4, 5))]:
            for bonds in [[], [(0, 0)], [(0, 1)], [(0, 0), (3, 3)], [(0, 0), (0, 1), (2, 2)]]:
                for step in range(9):
                    self.agree(first, second, bonds, step)

    def test_a_long_chain(self):
        devices = [("n", 0, net, net + 1, 1, 1) for net in range(1, 20)]
        chain = Circuit(21, [], devices)
        for step in (0, 1, 5, 9, 10, 11, 30):
            self.agree(chain, chain, [], step)
            self.agree(chain, chain, [(1, 20)], step)


class ByHand(unittest.TestCase):
    def test_round_0(self):
        first = Circuit(4, [(1, "a"), (2, "b")], [("n", 0, 1, 2, 3, 4), ("n", 3, 3, 3, 3, 4), ("p", 0, 1, 2, 3, 4)])
        second = Circuit(3, [(0, "b"), (1, "c")], [("n", 0, 0, 0, 3, 4), ("n", 0, 0, 0, 4, 3)])
        self.assertEqual(net_classes(first, second, [], 0),
                         [[(0, 0), (0, 3), (1, 2)], [(0, 1)], [(0, 2), (1, 0)], [(1, 1)]])
        self.assertEqual(device_classes(first, second, [], 0), [[(0, 0), (0, 1), (1, 0)], [(0, 2)], [(1, 1)]])

    def test_bonds_in_round_0(self):
        circuit = Circuit(3, [], [])
        self.assertEqual(net_classes(circuit, circuit, [(0, 1)], 0), [[(0, 0), (1, 1)], [(0, 1), (0, 2), (1, 0), (1, 2)]])
        # Several bonds of one net.
        self.assertEqual(net_classes(circuit, circuit, [(0, 1), (0, 2)], 0),
                         [[(0, 0)], [(0, 1), (0, 2), (1, 0)], [(1, 1)], [(1, 2)]])
        self.assertEqual(net_classes(circuit, circuit, [(0, 1), (0, 1)], 0),
                         [[(0, 0), (1, 1)], [(0, 1), (0, 2), (1, 0), (1, 2)]])
        self.assertEqual(net_classes(circuit, circuit, [(0, 1), (2, 1)], 0),
                         [[(0, 0)], [(0, 1), (1, 0), (1, 2)], [(0, 2)], [(1, 1)]])
        self.assertIs(is_balanced(circuit, circuit, [(0, 1), (1, 2)], 0), True)
        self.assertIs(is_balanced(circuit, circuit, [(0, 1), (0, 2)], 0), False)
        self.assertIs(is_balanced(circuit, circuit, [(0, 1), (2, 1)], 0), False)

    def test_both_ends_count_twice(self):
        first = Circuit(2, [(1, "g")], [("n", 1, 0, 0, 1, 1)])
        second = Circuit(2, [(1, "g")], [("n", 1, 0, 1, 1, 1)])
        self.assertEqual(net_classes(first, second, [], 0), [[(0, 0), (1, 0)], [(0, 1), (1, 1)]])
        self.assertEqual(net_classes(first, second, [], 1), [[(0, 0)], [(0, 1)], [(1, 0)], [(1, 1)]])
        self.assertEqual(device_classes(first, second, [], 1), [[(0, 0)], [(1, 0)]])

    def test_gates_and_ends_differ(self):
        circuit = Circuit(2, [], [("n", 0, 1, 1, 1, 1)])
        other = Circuit(2, [], [("n", 1, 1, 1, 1, 1)])
        self.assertEqual(net_classes(circuit, circuit, [], 0), [[(0, 0), (0, 1), (1, 0), (1, 1)]])
        self.assertEqual(net_classes(circuit, circuit, [], 1), [[(0, 0), (1, 0)], [(0, 1), (1, 1)]])
        self.assertEqual(net_classes(circuit, other, [], 1), [[(0, 0)], [(0, 1)], [(1, 0)], [(1, 1)]])

    def test_nothing(self):
        nothing = Circuit(0, [], [])
        self.assertEqual([net_classes(nothing, nothing, [], 3), device_classes(nothing, nothing, [], 0)], [[], []])
        self.assertIs(is_balanced(nothing, nothing, [], 5), True)
        one = Circuit(1, [], [])
        self.assertEqual(net_classes(nothing, one, [], 2), [[(1, 0)]])
        self.assertIs(is_balanced(nothing, one, [], 2), False)

    def test_arguments_stay_and_lists_are_new(self):
        bonds, circuit = [(0, 1)], rings(5)
        for read in (net_classes, device_classes):
            before = [list(members) for members in read(circuit, circuit, bonds, 2)]
            found = read(circuit, circuit, bonds, 2)
            found[0].append("x")
            found.clear()
            self.assertEqual(read(circuit, circuit, bonds, 2), before)
        self.assertEqual([bonds, circuit], [[(0, 1)], rings(5)])


class Balance(unittest.TestCase):
    def test_partners_have_the_same_colours(self):
        source = random.Random(3)
        for _ in range(30):
            first = random_circuit(source, source.randint(1, 6), source.randint(0, 7), names=source.randint(0, 1))
            second, nets, devices = mixed_up(source, first)
            bonded = [source.randrange(first.net_count) for _ in range(source.randint(0, 2))]
            bonds = [(net, nets[net]) for net in bonded]
            for step in range(5):
                self.assertIs(is_balanced(first, second, bonds, step), True)
                for classes, partners in [(net_classes(first, second, bonds, step), nets),
                                          (device_classes(first, second, bonds, step), devices)]:
                    for members in classes:
                        images = {(1, partners[index]) for side, index in members if side == 0}
                        self.assertEqual(images, {place for place in members if place[0] == 1})

    def test_numbers_of_nets_and_devices(self):
        circuit = Circuit(2, [], [("n", 0, 0, 1, 1, 1)])
        self.assertIs(is_balanced(circuit, Circuit(3, [], [("n", 0, 0, 1, 1, 1)]), [], 0), False)
        self.assertIs(is_balanced(circuit, Circuit(2, [], [("n", 0, 0, 1, 1, 1)] * 2), [], 0), False)
        self.assertIs(is_balanced(circuit, circuit, [], 0), True)

    def test_a_broken_balance_stays_broken(self):
        # Cut open, the ring of six is longer than a ring of three.
        answers = [is_balanced(rings(6), rings(3, 3), [(0, 0)], step) for step in range(6)]
        self.assertEqual(answers[0], True)
        self.assertEqual(sorted(answers, reverse=True), answers)
        self.assertEqual(answers[-1], False)


if __name__ == "__main__":
    unittest.main()
