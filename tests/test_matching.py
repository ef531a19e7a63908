"""Point 41: matches."""

import random
import unittest
from itertools import permutations

from reticle.circuits import Circuit
from reticle.matching import is_match
from tests.helpers import mixed_up, random_circuit, rings

FIRST = Circuit(3, [(0, "a")], [("n", 0, 1, 2, 4, 2)])

SECOND = Circuit(3, [(2, "a")], [("n", 2, 0, 1, 4, 2)])


def is_plainly_match(first, second, nets, devices):
    """Point 41, word by word."""
    if sorted(nets) != list(range(second.net_count)) or len(nets) != first.net_count:
        return False
    if sorted(devices) != list(range(len(second.devices))) or len(devices) != len(first.devices):
        return False
    for net, partner in enumerate(nets):
        if first.name_of(net) != second.name_of(partner):
            return False
    for index, partner in enumerate(devices):
        kind, gate, end, other, width, length = first.devices[index]
        device = second.devices[partner]
        ends = [(nets[end], nets[other]), (nets[other], nets[end])]
        if (kind, width, length, nets[gate]) != (device[0], device[4], device[5], device[1]) or device[2:4] not in ends:
            return False
    return True


class IsMatch(unittest.TestCase):
    def wrong(self, nets, devices, first=FIRST, second=SECOND):
        self.assertIs(is_match(first, second, (nets, devices)), False, (nets, devices))

    def test_example(self):
        self.assertIs(is_match(FIRST, SECOND, ((2, 1, 0), (0,))), True)

    def test_ends_exchanged(self):
        self.assertIs(is_match(FIRST, SECOND, ((2, 0, 1), (0,))), True)

    def test_mixed_up_circuits(self):
        source = random.Random(1)
        for _ in range(60):
            circuit = random_circuit(source, source.randint(1, 7), source.randint(0, 8), sizes=2, names=2)
            other, nets, devices = mixed_up(source, circuit)
            self.assertIs(is_match(circuit, other, (nets, devices)), True)
            self.assertIs(is_match(circuit, circuit, (tuple(range(circuit.net_count)),
                                                      tuple(range(len(circuit.devices))))), True)

    def test_against_all_pairs_of_tuples(self):
        source, answers = random.Random(2), []
        for _ in range(40):
            first = random_circuit(source, 3, 3, sizes=1, names=source.randint(0, 1))
            second = mixed_up(source, first)[0] if source.random() < 0.7 else random_circuit(source, 3, 3)
            for nets in permutations(range(3)):
                for devices in permutations(range(3)):
                    expected = is_plainly_match(first, second, nets, devices)
                    self.assertIs(is_match(first, second, (nets, devices)), expected)
                    answers.append(expected)
        self.assertGreater(answers.count(True), 20)

    def test_numbers_exchanged(self):
        self.wrong((0, 1, 2), (0,))
        self.wrong((1, 2, 0), (0,))
        self.wrong((1, 0, 2), (0,))

    def test_numbers_doubled(self):
        self.wrong((2, 1, 1), (0,))
        self.wrong((2, 2, 2), (0,))
        two = Circuit(3, [], [("n", 0, 1, 2, 1, 1)] * 2)
        self.wrong((0, 1, 2), (0, 0), two, two)
        self.assertIs(is_match(two, two, ((0, 1, 2), (1, 0))), True)

    def test_numbers_out_of_range(self):
        self.wrong((2, 1, 3), (0,))
        self.wrong((2, 1, -1), (0,))
        self.wrong((2, 1, -3), (0,))
        self.wrong((2, 1, 0), (1,))
        self.wrong((2, 1, 0), (-1,))
        self.wrong((2, 1, 10 ** 29), (0,))

    def test_too_few_or_too_many(self):
        self.wrong((), ())
        self.wrong((2, 1), (0,))
        self.wrong((2, 1, 0, 3), (0,))
        self.wrong((2, 1, 0), ())
        self.wrong((2, 1, 0), (0, 1))
        self.wrong((2, 1, 0), (0, 0))

    def test_names(self):
        unnamed = Circuit(3, [], [("n", 2, 0, 1, 4, 2)])
        self.wrong((2, 1, 0), (0,), FIRST, unnamed)
        self.wrong((2, 1, 0), (0,), Circuit(3, [], [("n", 0, 1, 2, 4, 2)]), SECOND)
        self.wrong((2, 1, 0), (0,), FIRST, Circuit(3, [(2, "b")], [("n", 2, 0, 1, 4, 2)]))
        self.wrong((2, 1, 0), (0,), FIRST, Circuit(3, [(2, "a"), (1, "b")], [("n", 2, 0, 1, 4, 2)]))

    def test_devices(self):
        for device in [("p", 2, 0, 1, 4, 2), ("n", 2, 0, 1, 5, 2), ("n", 2, 0, 1, 4, 3), ("n", 2, 0, 1, 2, 4),
                       ("n", 1, 0, 2, 4, 2), ("n", 2, 0, 0, 4, 2), ("n", 2, 1, 1, 4, 2), ("n", 2, 0, 2, 4, 2)]:
            self.wrong((2, 1, 0), (0,), FIRST, Circuit(3, [(2, "a")], [device]))

    def test_devices_exchanged(self):
        circuit = Circuit(3, [], [("n", 0, 1, 2, 1, 1), ("n", 1, 0, 2, 1, 1)])
        self.assertIs(is_match(circuit, circuit, ((0, 1, 2), (0, 1))), True)
        self.wrong((0, 1, 2), (1, 0), circuit, circuit)
        self.assertIs(is_match(circuit, circuit, ((1, 0, 2), (1, 0))), True)

    def test_sizes_of_circuits(self):
        larger = Circuit(4, [(2, "a")], [("n", 2, 0, 1, 4, 2)])
        for match in [((2, 1, 0), (0,)), ((2, 1, 0, 3), (0,))]:
            self.wrong(*match, FIRST, larger)
            self.wrong(*match, larger, FIRST)
        more = Circuit(3, [(2, "a")], [("n", 2, 0, 1, 4, 2)] * 2)
        for devices in [(0,), (0, 1)]:
            self.wrong((2, 1, 0), devices, FIRST, more)
            self.wrong((2, 1, 0), devices, more, FIRST)
        self.wrong((0, 1, 2, 3, 4, 5), (0, 1, 2, 3, 4, 5), rings(6), rings(3, 3))

    def test_nothing(self):
        nothing = Circuit(0, [], [])
        self.assertIs(is_match(nothing, nothing, ((), ())), True)
        self.wrong((0,), (), nothing, nothing)


if __name__ == "__main__":
    unittest.main()
