"""Points 64 to 68: behaviour."""

import random
import unittest
from itertools import product

from reticle.behaviour import next_values, settle, table
from reticle.circuits import Circuit
from reticle.errors import UnknownName
from reticle.expanding import expand
from reticle.reducing import merged, pruned
from reticle.schematictext import parse_schematic
from tests.helpers import GATES, mixed_up, random_circuit


def gate(name):
    """The circuit of one of the gates."""
    return expand(parse_schematic(GATES), name)


def conducts(device, values, surely):
    """Point 64."""
    value = values[device[1]]
    return value == {"n": "1", "p": "0"}[device[0]] or (value == "x" and not surely)


def pulled(circuit, fixed, values, surely, starts):
    """The nets that are not fixed and to which a path leads from a fixed net with one of some values."""
    found, size = {net for net, value in fixed.items() if value in starts}, -1
    while size != len(found):
        size = len(found)
        for device in circuit.devices:
            if conducts(device, values, surely):
                for end, other in (device[2:4], device[3:1:-1]):
                    if end in found and other not in fixed:
                        found.add(other)
    return found - set(fixed)


def plain_next(circuit, fixed, values):
    """Point 65, net by net."""
    told, fixed = [], dict(fixed)
    sure = {value: pulled(circuit, fixed, values, True, value) for value in "01"}
    perhaps = {value: pulled(circuit, fixed, values, False, (value, "x")) for value in "01"}
    for net in range(circuit.net_count):
        if net in fixed:
            told.append(fixed[net])
        elif net in sure["1"] and net not in perhaps["0"]:
            told.append("1")
        else:
            told.append("0" if net in sure["0"] and net not in perhaps["1"] else "x")
    return "".join(told)


def first_values(circuit, fixed):
    """The fixed values, and "x" for the other nets."""
    return "".join(dict(fixed).get(net, "x") for net in range(circuit.net_count))


def plainly_settled(circuit, fixed):
    """As many rounds as there are nets."""
    values = first_values(circuit, fixed)
    for _ in range(circuit.net_count):
        values = plain_next(circuit, fixed, values)
    return values


def random_fixed(source, circuit, most=6, values="01x"):
    """A list of pairs of different nets and their values."""
    nets = source.sample(range(circuit.net_count), source.randint(0, min(most, circuit.net_count)))
    return [(net, source.choice(values)) for net in nets]


def samples(count, seed=1, most_nets=9, most_devices=14):
    """Circuits with fixed nets, the same on each call."""
    source, found = random.Random(seed), []
    for _ in range(count):
        circuit = random_circuit(source, source.randint(1, most_nets), source.randint(0, most_devices), sizes=2, names=2)
        found.append((circuit, random_fixed(source, circuit)))
    return found


def chain(count):
    """A chain of inverters; net 0 is fixed to "1", net 1 to "0", and net 2 is the input."""
    devices = []
    for net in range(2, count + 2):
        devices.extend([("n", net, 1, net + 1, 1, 1), ("p", net, 0, net + 1, 1, 1)])
    return Circuit(count + 3, [], devices)


class NextValues(unittest.TestCase):
    def test_against_plain_pulls(self):
        source = random.Random(2)
        for circuit, fixed in samples(400):
            values = [source.choice("01x") for _ in range(circuit.net_count)]
            for net, value in fixed:
                values[net] = value
            found = next_values(circuit, fixed, "".join(values))
            self.assertIsInstance(found, str)
            self.assertEqual(found, plain_next(circuit, fixed, values), (circuit.devices, fixed, values))

    def one(self, kind, gate_value, fixed_value):
        """The next value of the end of one device, whose gate and other end are fixed."""
        circuit = Circuit(3, [], [(kind, 0, 1, 2, 1, 1)])
        return next_values(circuit, [(0, gate_value), (1, fixed_value)], gate_value + fixed_value + "x")

    def test_one_device(self):
        for value in "01x":
            self.assertEqual(self.one("n", "1", value), "1" + value + value)
            self.assertEqual(self.one("p", "0", value), "0" + value + value)
            for kind, gate_value in [("n", "0"), ("n", "x"), ("p", "1"), ("p", "x")]:
                self.assertEqual(self.one(kind, gate_value, value), gate_value + value + "x")

    def test_two_pulls(self):
        # Net 4 is pulled by a device with the gate 0 to the value of net 2, and by one with the gate 1 to that of net 3.
        circuit = Circuit(5, [], [("n", 0, 2, 4, 1, 1), ("n", 1, 3, 4, 1, 1)])
        for values, expected in [("1110", "x"), ("1111", "1"), ("1010", "1"), ("0110", "0"), ("0010", "x"),
                                 ("1x10", "x"), ("1x11", "1"),
                                 ("x111", "1"), ("xx11", "x"), ("111x", "x"), ("101x", "1"), ("1x1x", "x"), ("1x00", "0"),
                                 ("110x", "x"), ("11xx", "x")]:
            fixed = list(enumerate(values))
            self.assertEqual(next_values(circuit, fixed, values + "x"), values + expected)

    def test_paths_do_not_pass_through_fixed_nets(self):
        # Nets 0 and 1 are the gate and the source, 2 is fixed in between, and 3 lies behind it.
        circuit = Circuit(4, [], [("n", 0, 1, 2, 1, 1), ("n", 0, 2, 3, 1, 1)])
        self.assertEqual(next_values(circuit, [(0, "1"), (1, "1"), (2, "0")], "110x"), "1100")
        self.assertEqual(next_values(circuit, [(0, "1"), (1, "1"), (2, "x")], "11xx"), "11xx")
        self.assertEqual(next_values(circuit, [(0, "1"), (1, "1")], "11xx"), "1111")

    def test_both_ends_at_one_net_and_the_gate_at_an_end(self):
        circuit = Circuit(2, [], [("n", 0, 1, 1, 1, 1)])
        self.assertEqual(next_values(circuit, [(0, "1")], "1x"), "1x")
        self.assertEqual(next_values(circuit, [(1, "1")], "x1"), "x1")
        circuit = Circuit(2, [], [("n", 1, 0, 1, 1, 1)])
        self.assertEqual(next_values(circuit, [(0, "1")], "1x"), "1x")
        self.assertEqual(next_values(circuit, [(0, "1")], "11"), "11")
        self.assertEqual(next_values(circuit, [(0, "0")], "01"), "00")
        self.assertEqual(next_values(Circuit(1, [], [("p", 0, 0, 0, 1, 1)]), [], "0"), "x")

    def test_known_values_that_nothing_pulls(self):
        circuit = Circuit(3, [], [("n", 0, 1, 2, 1, 1)])
        self.assertEqual(next_values(circuit, [], "101"), "xxx")
        self.assertEqual(next_values(circuit, [(0, "0"), (1, "1")], "011"), "01x")

    def test_all_nets_fixed(self):
        for circuit, _ in samples(20, seed=3):
            fixed = [(net, "01x"[net % 3]) for net in range(circuit.net_count)]
            values = first_values(circuit, fixed)
            self.assertEqual(next_values(circuit, fixed, values), values)

    def test_no_nets(self):
        self.assertEqual(next_values(Circuit(0, [], []), [], ""), "")
        self.assertEqual(settle(Circuit(0, [], []), []), "")
        self.assertEqual(settle(Circuit(3, [], []), [(1, "0")]), "x0x")

    def test_nothing_is_changed(self):
        circuit, fixed = chain(2), [(1, "0"), (0, "1"), (2, "1")]
        next_values(circuit, fixed, "101xx")
        settle(circuit, fixed)
        self.assertEqual(fixed, [(1, "0"), (0, "1"), (2, "1")])
        self.assertEqual(circuit, chain(2))


class Settle(unittest.TestCase):
    def test_against_as_many_rounds_as_nets(self):
        for circuit, fixed in samples(400, seed=4):
            found = settle(circuit, fixed)
            self.assertIsInstance(found, str)
            self.assertEqual(found, plainly_settled(circuit, fixed), (circuit.devices, fixed))
            self.assertEqual(next_values(circuit, fixed, found), found)

    def test_chains(self):
        for count in (1, 2, 5, 98):
            circuit = chain(count)
            for value, other in ("01", "10"):
                found = settle(circuit, [(0, "1"), (1, "0"), (2, value)])
                self.assertEqual(found, "10" + "".join([value, other][at % 2] for at in range(count + 1)))
            self.assertEqual(settle(circuit, [(0, "1"), (1, "0"), (2, "x")]), "10" + "x" * (count + 1))
            self.assertEqual(settle(circuit, [(0, "1"), (1, "0")]), "10" + "x" * (count + 1))

    def test_rings_stay_unknown(self):
        devices = [(kind, net, *sorted([supply, 2 + (net - 1) % 3]), 1, 1)
                   for net in (2, 3, 4) for kind, supply in [("n", 1), ("p", 0)]]
        self.assertEqual(settle(Circuit(5, [], devices), [(0, "1"), (1, "0")]), "10xxx")

    def test_latch(self):
        latch = gate("latch")
        nets = {name: net for net, name in latch.names}
        supplies = [(nets["vdd"], "1"), (nets["gnd"], "0")]
        for s, r, expected in ["011", "100", "001", "11x", "xxx", "0x1", "1xx"]:
            found = settle(latch, supplies + [(nets["s"], s), (nets["r"], r)])
            self.assertEqual(found[nets["q"]], expected, s + r)

    def test_known_values_stay_from_round_to_round(self):
        for circuit, fixed in samples(100, seed=5):
            values = first_values(circuit, fixed)
            for _ in range(circuit.net_count):
                following = next_values(circuit, fixed, values)
                for before, after in zip(values, following):
                    self.assertIn(before, (after, "x"))
                values = following
            self.assertEqual(settle(circuit, fixed), values)

    def test_fixing_what_was_unknown(self):
        source = random.Random(6)
        for circuit, fixed in samples(200, seed=7):
            before = settle(circuit, fixed)
            known = [(net, source.choice("01x") if value == "x" else value) for net, value in fixed]
            for value, after in zip(before, settle(circuit, known)):
                self.assertIn(value, (after, "x"))

    def test_no_fixed_nets_and_all_fixed(self):
        for circuit, _ in samples(20, seed=8):
            self.assertEqual(settle(circuit, []), "x" * circuit.net_count)
            fixed = [(net, "1") for net in range(circuit.net_count)]
            self.assertEqual(settle(circuit, fixed), "1" * circuit.net_count)


class WhatItDependsOn(unittest.TestCase):
    def test_partners_in_a_match(self):
        source = random.Random(9)
        for circuit, fixed in samples(80, seed=10):
            other, nets, _ = mixed_up(source, circuit)
            found = settle(other, [(nets[net], value) for net, value in fixed])
            self.assertEqual([found[nets[net]] for net in range(circuit.net_count)], list(settle(circuit, fixed)))

    def test_merging(self):
        for circuit, fixed in samples(60, seed=11, most_nets=3):
            self.assertEqual(settle(merged(circuit), fixed), settle(circuit, fixed))

    def test_pruning(self):
        for circuit, fixed in samples(60, seed=12, most_devices=3):
            used = sorted({net for device in circuit.devices for net in device[1:4]} | {net for net, _ in circuit.names})
            kept = [(used.index(net), value) for net, value in fixed if net in used]
            found = settle(pruned(circuit), kept)
            self.assertEqual(list(found), [settle(circuit, fixed)[net] for net in used])

    def test_the_order_of_the_fixed_nets(self):
        for circuit, fixed in samples(30, seed=13):
            self.assertEqual(settle(circuit, fixed[::-1]), settle(circuit, fixed))


class Table(unittest.TestCase):
    def test_example(self):
        self.assertEqual(table(gate("inv"), ["a"], "y"), ["1", "0"])

    def test_gates(self):
        self.assertEqual(table(gate("nand"), ["a", "b"], "y"), ["1", "1", "1", "0"])
        self.assertEqual(table(gate("xor"), ["a", "b"], "y"), ["0", "1", "1", "0"])
        self.assertEqual(table(gate("switch"), ["s", "a"], "y"), ["x", "x", "0", "1"])
        self.assertEqual(table(gate("switch"), ["a", "s"], "y"), ["x", "0", "x", "1"])

    def test_no_inputs(self):
        self.assertEqual(table(gate("inv"), [], "y"), ["x"])
        self.assertEqual(table(gate("inv"), [], "vdd"), ["1"])
        self.assertEqual(table(gate("inv"), [], "gnd"), ["0"])

    def test_eight_inputs(self):
        self.assertEqual(table(gate("and8"), list("abcdefgh"), "y"), ["0"] * 255 + ["1"])
        self.assertEqual(table(gate("and8"), list("hgfedcb"), "y"), ["0"] * 127 + ["x"])

    def test_the_first_input_stands_first(self):
        circuit = gate("and8")
        nets = {name: net for net, name in circuit.names}
        for inputs in (["a", "b", "c"], ["c", "a", "b"], ["y"], ["h", "y"]):
            expected = []
            for values in product("01", repeat=len(inputs)):
                fixed = [(nets["vdd"], "1"), (nets["gnd"], "0")] + [(nets[name], value) for name, value in zip(inputs, values)]
                expected.append(plainly_settled(circuit, fixed)[nets["c"]])
            self.assertEqual(table(circuit, inputs, "c"), expected)

    def test_an_input_as_output(self):
        self.assertEqual(table(gate("inv"), ["a"], "a"), ["0", "1"])
        self.assertEqual(table(gate("nand"), ["a", "b"], "b"), ["0", "1", "0", "1"])
        self.assertEqual(table(gate("inv"), ["y"], "y"), ["0", "1"])

    def test_without_supplies(self):
        devices = [("n", 0, 1, 3, 1, 1), ("p", 0, 2, 3, 1, 1)]
        for names, expected in [({1: "gnd", 2: "vdd"}, ["1", "0"]), ({1: "gnd"}, ["x", "0"]), ({2: "vdd"}, ["1", "x"]),
                                ({}, ["x", "x"]), ({1: "vdd", 2: "gnd"}, ["0", "1"]), ({1: "vdda", 2: "gndb"}, ["x", "x"])]:
            circuit = Circuit(4, [(0, "a"), (3, "y"), *names.items()], devices)
            self.assertEqual(table(circuit, ["a"], "y"), expected)

    def test_unknown_names(self):
        circuit = gate("nand")
        for inputs, output, name in [(["c"], "z", "c"), (["a", "d", "c"], "y", "d"), (["a"], "z", "z"), ([], "m", "m"),
                                     (["a", ""], "z", ""), (["A"], "y", "A")]:
            with self.assertRaises(UnknownName) as caught:
                table(circuit, inputs, output)
            self.assertIs(type(caught.exception), UnknownName)
            self.assertEqual(caught.exception.name, name)

    def test_nothing_is_changed(self):
        inputs = ["b", "a"]
        found = table(gate("nand"), inputs, "y")
        self.assertIsInstance(found, list)
        self.assertEqual(inputs, ["b", "a"])

    def test_random_circuits(self):
        source = random.Random(14)
        for _ in range(40):
            circuit = random_circuit(source, source.randint(3, 8), source.randint(0, 12))
            names = source.sample(["vdd", "gnd", "a", "b", "y"], 3)
            circuit = Circuit(circuit.net_count, list(enumerate(names)), list(circuit.devices))
            nets = {name: net for net, name in circuit.names}
            supplies = [(nets[name], value) for name, value in [("vdd", "1"), ("gnd", "0")] if name in nets]
            inputs = [name for name in names if name not in ("vdd", "gnd", "y")]
            expected = []
            for values in product("01", repeat=len(inputs)):
                fixed = supplies + [(nets[name], value) for name, value in zip(inputs, values)]
                expected.append(plainly_settled(circuit, fixed)[nets[names[0]]])
            self.assertEqual(table(circuit, inputs, names[0]), expected)


if __name__ == "__main__":
    unittest.main()
