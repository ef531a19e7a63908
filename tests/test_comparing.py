"""Points 41 and 43 to 46: differences, comparing, and its limit."""

import random
import unittest
from itertools import permutations

from reticle.circuits import Circuit
from reticle.colours import is_balanced, net_classes
from reticle.comparing import are_same, compare, is_difference
from reticle.errors import TooLarge
from reticle.matching import is_match
from tests.helpers import HUGE, mixed_up, random_circuit, rings

NOTHING = Circuit(0, [], [])


def image(device, nets):
    """A device with the partners of its nets."""
    kind, gate, end, other, width, length = device
    return (kind, nets[gate], *sorted([nets[end], nets[other]]), width, length)


def have_match(first, second):
    """Whether two circuits have a match, by all ways to pair the nets."""
    if first.net_count != second.net_count:
        return False
    devices = sorted(second.devices)
    for nets in permutations(range(second.net_count)):
        names = sorted((nets[net], name) for net, name in first.names)
        if names == list(second.names) and sorted(image(device, nets) for device in first.devices) == devices:
            return True
    return False


def changed(source, circuit):
    """A circuit with one device that is connected otherwise."""
    if not circuit.devices:
        return circuit
    devices = list(circuit.devices)
    at = source.randrange(len(devices))
    gate, *ends = [source.randrange(circuit.net_count) for _ in range(3)]
    devices[at] = (devices[at][0], gate, *sorted(ends), *devices[at][4:])
    return Circuit(circuit.net_count, list(circuit.names), devices)


def pairs_of_circuits(count, most_nets=5, seed=1):
    """Pairs of circuits, many of them nearly the same."""
    source, found = random.Random(seed), []
    for _ in range(count):
        first = random_circuit(source, source.randint(1, most_nets), source.randint(0, 6), names=source.randint(0, 1))
        second = mixed_up(source, first)[0]
        for _ in range(source.choice([0, 0, 1, 2])):
            second = changed(source, second)
        found.append((first, second))
    return found


def regular_circuit(source, count):
    """A circuit of equal devices in which each net is one gate and two ends, so that colours tell nothing apart."""
    gates, ends, others = [source.sample(range(count), count) for _ in range(3)]
    return Circuit(count, [], [("n", gate, min(pair), max(pair), 1, 1) for gate, *pair in zip(gates, ends, others)])


def lists_in(difference):
    """How many lists of bonds a search that gave a difference looked at."""
    if difference[0] == "count":
        return 1
    return 1 + sum(lists_in(inner) for _, inner in difference[3])


def limits_of(first, second):
    """The smallest limit under which the search is not given up."""
    limit = 1
    while True:
        try:
            compare(first, second, limit=limit)
            return limit
        except TooLarge:
            limit += 1


class Compare(unittest.TestCase):
    def right(self, first, second):
        """Checks the answer, and returns its first word."""
        answer = compare(first, second)
        self.assertIsInstance(answer, tuple)
        word, shown = answer
        if word == "same":
            self.assertIs(is_match(first, second, shown), True)
        else:
            self.assertEqual(word, "different")
            self.assertIs(is_difference(first, second, shown), True)
        self.assertIs(are_same(first, second), word == "same")
        return word

    def test_example(self):
        first = Circuit(3, [(0, "a")], [("n", 0, 1, 2, 4, 2)])
        second = Circuit(3, [(2, "a")], [("n", 2, 0, 1, 4, 3)])
        self.assertEqual(compare(first, second), ("different", ("count", 0)))

    def test_against_all_ways_to_pair_the_nets(self):
        words = []
        for first, second in pairs_of_circuits(300):
            word = self.right(first, second)
            self.assertEqual(word == "same", have_match(first, second), (first.devices, second.devices))
            words.append(word)
        self.assertGreater(words.count("same"), 100)
        self.assertGreater(words.count("different"), 100)

    def test_regular_circuits_against_all_ways_to_pair_the_nets(self):
        source, words = random.Random(9), []
        for _ in range(60):
            first = regular_circuit(source, source.randint(3, 5))
            second = mixed_up(source, first)[0] if source.random() < 0.3 else regular_circuit(source, first.net_count)
            word = self.right(first, second)
            self.assertEqual(word == "same", have_match(first, second), (first.devices, second.devices))
            words.append(word)
        self.assertGreater(words.count("same"), 10)
        self.assertGreater(words.count("different"), 10)

    def test_mixed_up_circuits(self):
        source = random.Random(2)
        for _ in range(40):
            first = random_circuit(source, source.randint(1, 30), source.randint(0, 60), sizes=2, names=3)
            self.assertEqual(self.right(first, mixed_up(source, first)[0]), "same")

    def test_rings(self):
        for sizes, others in [((6,), (3, 3)), ((3, 3), (6,)), ((4, 4), (3, 5)), ((3, 3, 3), (3, 6)), ((9,), (3, 3, 3)),
                              ((3, 4), (7,)), ((3, 4, 5), (5, 3, 4)), ((1, 2, 3), (6,)), ((2, 2), (4,)), ((1, 1), (2,)),
                              ((12,), (12,)), ((5, 5, 5), (5, 5, 5)), ((3, 3, 4), (4, 3, 3))]:
            for gate in (None, True):
                expected = "same" if sorted(sizes) == sorted(others) else "different"
                self.assertEqual(self.right(rings(*sizes, gate=gate), rings(*others, gate=gate)), expected)

    def test_rings_mixed_up(self):
        source = random.Random(3)
        for sizes in [(10,), (4, 4, 4), (3, 5, 7), (6, 6)]:
            self.assertEqual(self.right(rings(*sizes), mixed_up(source, rings(*sizes))[0]), "same")

    def test_directions_of_a_ring(self):
        # In the second circuit one device has its gate at the other end.
        first = rings(5)
        devices = [("n", 1, 0, 1, 1, 1), *first.devices[1:]]
        self.assertEqual(self.right(first, Circuit(5, [], devices)), "different")

    def test_match_in_the_order_of_the_indexes(self):
        # Devices of one colour are paired in their order.
        devices = [("n", 0, 1, 2, 1, 1)] * 3
        first = Circuit(3, [(0, "a"), (1, "b"), (2, "c")], devices + [("p", 0, 1, 2, 1, 1)])
        second = Circuit(3, [(0, "a"), (1, "b"), (2, "c")], [("p", 0, 1, 2, 1, 1)] + devices)
        self.assertEqual(compare(first, second), ("same", ((0, 1, 2), (1, 2, 3, 0))))

    def test_first_round_of_a_broken_balance(self):
        for first, second in pairs_of_circuits(150, seed=4):
            word, shown = compare(first, second)
            if word == "different" and shown[0] == "count":
                step = shown[1]
                self.assertIs(is_balanced(first, second, [], step), False)
                self.assertIs(step == 0 or is_balanced(first, second, [], step - 1), True)

    def test_the_round_of_a_choice(self):
        # Round 1 has the same colours as round 0: all nets one, and all devices one.
        word, shown = compare(rings(6), rings(3, 3))
        self.assertEqual((word, shown[0], shown[1]), ("different", "choose", 1))
        self.assertEqual([net for net, _ in shown[3]], [0, 1, 2, 3, 4, 5])

    def test_sizes_of_circuits(self):
        self.assertEqual(compare(NOTHING, Circuit(1, [], [])), ("different", ("count", 0)))
        self.assertEqual(compare(Circuit(2, [], []), Circuit(2, [], [("n", 0, 0, 1, 1, 1)])), ("different", ("count", 0)))
        self.assertEqual(compare(NOTHING, NOTHING), ("same", ((), ())))

    def test_names(self):
        first = Circuit(2, [(0, "a")], [])
        self.assertEqual(compare(first, Circuit(2, [(1, "a")], [])), ("same", ((1, 0), ())))
        for names in [[], [(1, "b")], [(0, "a"), (1, "b")]]:
            self.assertEqual(compare(first, Circuit(2, names, [])), ("different", ("count", 0)))

    def test_nets_without_devices(self):
        for count in (1, 2, 40):
            answer = compare(Circuit(count, [], []), Circuit(count, [], []))
            self.assertEqual(answer, ("same", (tuple(range(count)), ())))

    def test_full_circuits(self):
        source = random.Random(5)
        full = random_circuit(source, 200, 200)
        self.assertEqual(self.right(full, mixed_up(source, full)[0]), "same")
        self.assertEqual(self.right(rings(200), rings(100, 100)), "different")
        self.assertEqual(self.right(Circuit(200, [], []), Circuit(200, [], [])), "same")

    def test_circuits_stay(self):
        first, second = rings(3, 3), rings(6)
        compare(first, second)
        is_difference(first, second, ("count", 0))
        self.assertEqual([first, second], [rings(3, 3), rings(6)])


class Limit(unittest.TestCase):
    def test_given_up(self):
        with self.assertRaises(TooLarge) as caught:
            compare(rings(6), rings(3, 3), limit=6)
        self.assertIs(type(caught.exception), TooLarge)
        self.assertEqual(caught.exception.limit, 6)
        with self.assertRaises(TooLarge) as caught:
            are_same(rings(6), rings(3, 3), limit=3)
        self.assertEqual(caught.exception.limit, 3)

    def test_fits_exactly(self):
        self.assertEqual(compare(rings(6), rings(3, 3), limit=7)[0], "different")
        self.assertEqual(compare(rings(6), rings(3, 3), limit=HUGE)[0], "different")
        self.assertIs(are_same(rings(6), rings(3, 3), limit=7), False)
        # Each bond leaves one net less to choose.
        for count in (2, 3, 9):
            self.assertEqual(limits_of(Circuit(count, [], []), Circuit(count, [], [])), count)

    def test_the_lists_that_a_difference_shows(self):
        for sizes, others in [((6,), (3, 3)), ((4, 4), (3, 5)), ((2, 2), (4,)), ((3, 3, 3), (3, 6))]:
            first, second = rings(*sizes), rings(*others)
            self.assertEqual(limits_of(first, second), lists_in(compare(first, second)[1]))

    def test_one_is_enough_where_colours_decide(self):
        source = random.Random(6)
        for _ in range(60):
            first = random_circuit(source, source.randint(1, 8), source.randint(0, 9), sizes=3, names=2)
            second = mixed_up(source, first)[0] if source.random() < 0.6 else random_circuit(source, 4, 4)
            last = first.net_count + second.net_count + len(first.devices) + len(second.devices)
            if not is_balanced(first, second, [], last):
                self.assertEqual(compare(first, second, limit=1)[0], "different")
            elif len(net_classes(first, second, [], last)) == first.net_count:
                self.assertEqual(compare(first, second, limit=1)[0], "same")
            else:
                with self.assertRaises(TooLarge):
                    compare(first, second, limit=1)

    def test_a_thousand_if_nothing_is_said(self):
        with self.assertRaises(TooLarge) as caught:
            compare(rings(*[3] * 16), rings(*[3] * 14, 6))
        self.assertEqual(caught.exception.limit, 1000)

    def test_the_limit_is_passed_by_keyword(self):
        with self.assertRaises(TypeError):
            compare(NOTHING, NOTHING, 5)
        with self.assertRaises(TypeError):
            are_same(NOTHING, NOTHING, 5)


class IsDifference(unittest.TestCase):
    def right(self, first, second, *differences):
        for part in differences:
            self.assertIs(is_difference(first, second, part), True, part)

    def wrong(self, first, second, *differences):
        for part in differences:
            self.assertIs(is_difference(first, second, part), False, part)

    def test_counts(self):
        first = Circuit(3, [(0, "a")], [("n", 0, 1, 2, 4, 2)])
        second = Circuit(3, [(0, "a")], [("n", 1, 0, 2, 4, 2)])
        self.wrong(first, second, ("count", 0), ("count", -1), ("count", 9), ("count", HUGE), ("count", -HUGE))
        self.right(first, second, *[("count", step) for step in range(1, 9)])
        self.wrong(first, first, *[("count", step) for step in range(-1, 12)])

    def test_counts_of_different_numbers(self):
        self.right(NOTHING, Circuit(1, [], []), ("count", 0), ("count", 1))
        self.wrong(NOTHING, Circuit(1, [], []), ("count", 2), ("count", -1))
        self.wrong(NOTHING, NOTHING, ("count", 0))

    def choice(self):
        """Two circuits, and a choice that is a difference of them."""
        first, second = rings(3, 3), rings(6)
        return first, second, compare(first, second)[1]

    def test_a_right_choice_and_changed_ones(self):
        first, second, shown = self.choice()
        _, step, net, cases = shown
        self.assertEqual((step, net, len(cases)), (1, 0, 6))
        self.right(first, second, shown)
        # In any round, and for any net; the cases are the same by symmetry.
        self.right(first, second, ("choose", 0, 0, cases), ("choose", 24, 0, cases), ("choose", 1, 5, cases))
        self.wrong(first, second, ("choose", -1, 0, cases), ("choose", 25, 0, cases), ("choose", HUGE, 0, cases))
        self.wrong(first, second, ("choose", 1, 6, cases), ("choose", 1, -1, cases), ("choose", 1, HUGE, cases))

    def test_changed_cases(self):
        first, second, (_, _, _, cases) = self.choice()
        swapped = (cases[1], cases[0], *cases[2:])
        other_net = ((6, cases[0][1]), *cases[1:])
        doubled = (cases[0], *cases)
        for part in [swapped, other_net, doubled, cases[1:], cases[:-1], (), (*cases, (6, cases[0][1])),
                     (*cases[:5], (-1, cases[5][1])), ((HUGE, cases[0][1]), *cases[1:])]:
            self.wrong(first, second, ("choose", 1, 0, part))

    def test_inner_differences(self):
        first, second, (_, _, _, cases) = self.choice()
        broken = cases[3][1][1]
        for inner, expected in [(("count", broken), True), (("count", broken - 1), False), (("count", broken + 1), True),
                                (("count", -1), False), (("count", 25), False)]:
            part = ("choose", 1, 0, (*cases[:3], (3, inner), *cases[4:]))
            self.assertIs(is_difference(first, second, part), expected)

    def test_choices_of_the_same_circuit(self):
        circuit = Circuit(2, [], [])
        for cases in [(), ((0, ("count", 0)), (1, ("count", 0))), ((0, ("count", 1)), (1, ("count", 2)))]:
            self.wrong(circuit, circuit, ("choose", 0, 0, cases))

    def test_a_choice_without_cases(self):
        # No net of the second circuit has the colour, so there is nothing to choose.
        first, second = Circuit(1, [(0, "a")], []), Circuit(1, [(0, "b")], [])
        self.right(first, second, ("choose", 0, 0, ()), ("choose", 2, 0, ()))
        self.wrong(first, second, ("choose", 0, 0, ((0, ("count", 0)),)), ("choose", 0, 1, ()), ("choose", 3, 0, ()))
        self.right(first, NOTHING, ("choose", 0, 0, ()))
        self.wrong(NOTHING, first, ("choose", 0, 0, ()))

    def test_nested_choices(self):
        first, second = rings(3, 3, 3), rings(3, 6)
        shown = compare(first, second)[1]
        depths = [inner[0] for _, inner in shown[3]]
        self.assertIn("choose", depths)
        self.right(first, second, shown)
        at = depths.index("choose")
        word, step, net, cases = shown[3][at][1]
        for inner in [(word, step, net, cases[1:]), (word, step, net, cases[::-1]), ("count", step),
                      (word, step, net, ((cases[0][0], ("count", 0)), *cases[1:]))]:
            self.wrong(first, second, (*shown[:3], (*shown[3][:at], (shown[3][at][0], inner), *shown[3][at + 1:])))

    def test_bonds_of_one_net_several_times(self):
        # Choosing a bonded net again leaves the one partner; another partner contradicts it at once.
        first, second, (_, _, _, cases) = self.choice()
        again = tuple((net, ("choose", 0, 0, ((net, inner),))) for net, inner in cases)
        self.right(first, second, ("choose", 0, 0, again))
        wrong = tuple((net, ("choose", 0, 0, (((net + 1) % 6, inner),))) for net, inner in cases)
        self.wrong(first, second, ("choose", 0, 0, wrong))

    def test_nested_forty_deep(self):
        first, second = Circuit(1, [], []), Circuit(1, [], [("n", 0, 0, 0, 1, 1)])
        part = ("count", 0)
        for _ in range(39):
            part = ("choose", 0, 0, ((0, part),))
        self.right(first, second, part)
        part = ("count", -1)
        for _ in range(39):
            part = ("choose", 0, 0, ((0, part),))
        self.wrong(first, second, part)

    def test_what_compare_returned(self):
        for first, second in pairs_of_circuits(120, seed=7):
            word, shown = compare(first, second)
            if word == "different":
                self.right(first, second, shown)
                self.wrong(first, first, shown)
                self.wrong(second, second, shown)

    def test_no_difference_of_the_same_circuits(self):
        source = random.Random(8)
        differences = [compare(first, second)[1] for first, second in [
            (rings(6), rings(3, 3)), (rings(4, 4), rings(3, 5)), (NOTHING, Circuit(2, [], []))]]
        for _ in range(20):
            first = random_circuit(source, 6, 6)
            self.wrong(first, mixed_up(source, first)[0], *differences)


if __name__ == "__main__":
    unittest.main()
