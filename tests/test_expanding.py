"""Points 61 and 62: expanding blocks, and replacing uses."""

import random
import unittest

from reticle.circuits import Circuit
from reticle.comparing import are_same
from reticle.errors import TooLarge, UnknownCell
from reticle.expanding import expand
from reticle.schematics import Block, Schematic, own_nets
from reticle.schematictext import parse_schematic
from tests.helpers import HUGE, random_blocks

GATES = ("block inv a y vdd gnd\ndevice n a gnd y 2 1\ndevice p a vdd y 4 1\n"
         "block buf a y vdd gnd\nuse inv a m vdd gnd\nuse inv m y vdd gnd")


def followed(schematic, name, path=(), given=None):
    """The nets of a block in the order of point 61, and its devices, where a net is called by a path of uses and a name.

    `given` tells for each port which net it is.
    """
    block = schematic.block(name)
    known = {net: (given or {}).get(net, (*path, net)) for net in own_nets(block)}
    nets = [known[net] for net in own_nets(block) if given is None or net not in given]
    devices = [(kind, known[gate], known[end], known[other], width, length)
               for kind, gate, end, other, width, length in block.devices]
    for at, (used, others) in enumerate(block.uses):
        ports = schematic.block(used).ports
        more = followed(schematic, used, (*path, at), dict(zip(ports, [known[net] for net in others])))
        nets, devices = nets + more[0], devices + more[1]
    return nets, devices


def plain_circuit(schematic, name):
    """The circuit of a block, from the followed uses."""
    nets, devices = followed(schematic, name)
    numbers = {net: at for at, net in enumerate(nets)}
    told = []
    for kind, gate, end, other, width, length in devices:
        told.append((kind, numbers[gate], *sorted([numbers[end], numbers[other]]), width, length))
    return len(nets), tuple(enumerate(schematic.block(name).ports)), tuple(told)


class Expand(unittest.TestCase):
    def agree(self, schematic, name):
        circuit = expand(schematic, name)
        self.assertIsInstance(circuit, Circuit)
        self.assertEqual((circuit.net_count, circuit.names, circuit.devices), plain_circuit(schematic, name))
        self.assertEqual(circuit.net_count, schematic.count_nets(name))
        self.assertEqual(len(circuit.devices), schematic.device_count(name))
        return circuit

    def test_example(self):
        circuit = self.agree(parse_schematic(GATES), "buf")
        self.assertEqual(circuit.devices, (
            ("n", 0, 3, 4, 2, 1), ("p", 0, 2, 4, 4, 1), ("n", 4, 1, 3, 2, 1), ("p", 4, 1, 2, 4, 1)))
        self.assertEqual(circuit.net_count, 5)
        self.assertEqual(circuit.names, ((0, "a"), (1, "y"), (2, "vdd"), (3, "gnd")))

    def test_against_following_the_uses(self):
        source = random.Random(1)
        for _ in range(100):
            schematic = Schematic(random_blocks(source, source.randint(1, 5), most_uses=3))
            for name in schematic.block_names:
                if max(schematic.device_count(name), schematic.count_nets(name), schematic.use_count(name)) <= 200:
                    self.agree(schematic, name)

    def test_ends_in_order(self):
        schematic = Schematic([Block("a", ["x", "y", "z"], [("n", "z", "y", "x", 5, HUGE), ("p", "x", "z", "z", 1, 1)], [])])
        self.assertEqual(self.agree(schematic, "a").devices, (("n", 2, 0, 1, 5, HUGE), ("p", 0, 2, 2, 1, 1)))

    def test_only_the_ports_of_the_expanded_block_have_names(self):
        circuit = self.agree(parse_schematic(GATES.replace("block buf a y vdd gnd", "block buf y")), "buf")
        self.assertEqual(circuit.names, ((0, "y"),))
        # The nets are y, then a, m, vdd and gnd as they occur first in the uses.
        self.assertEqual(circuit.devices[0], ("n", 1, 2, 4, 2, 1))

    def test_one_net_at_several_ports(self):
        schematic = Schematic([Block("in", ["a", "b", "c"], [("n", "a", "b", "c", 1, 1), ("n", "d", "a", "c", 2, 2)], []),
                               Block("out", ["p", "q"], [], [("in", ("q", "z", "q")), ("in", ("z", "z", "z"))])])
        circuit = self.agree(schematic, "out")
        self.assertEqual(circuit.devices, (
            ("n", 1, 1, 2, 1, 1), ("n", 3, 1, 1, 2, 2), ("n", 2, 2, 2, 1, 1), ("n", 4, 2, 2, 2, 2)))
        self.assertEqual(circuit.names, ((0, "p"), (1, "q")))

    def test_nets_that_occur_only_in_ports_or_uses(self):
        schematic = Schematic([Block("in", ["a", "b"], [], []),
                               Block("out", ["p"], [], [("in", ("x", "y")), ("in", ("y", "z"))])])
        self.assertEqual(self.agree(schematic, "out"), Circuit(4, [(0, "p")], []))

    def test_new_nets_of_nested_uses_come_use_by_use(self):
        schematic = parse_schematic(
            "block low a\ndevice n b a c 1 1\nblock mid a\ndevice p d a a 1 1\nuse low e\nuse low d\n"
            "block top\nuse mid s\nuse low t\nuse mid t")
        circuit = self.agree(schematic, "top")
        # s and t; then d and e of the first use, b and c of each use in it; b and c; and again as in the first one.
        self.assertEqual(circuit.net_count, 2 + 6 + 2 + 6)
        self.assertEqual(circuit.devices, (
            ("p", 2, 0, 0, 1, 1), ("n", 4, 3, 5, 1, 1), ("n", 6, 2, 7, 1, 1), ("n", 8, 1, 9, 1, 1),
            ("p", 10, 1, 1, 1, 1), ("n", 12, 11, 13, 1, 1), ("n", 14, 10, 15, 1, 1)))

    def test_empty_blocks(self):
        schematic = parse_schematic("block a\nblock b\nuse a\nuse a")
        self.assertEqual(self.agree(schematic, "b"), Circuit(0, [], []))

    def test_a_deep_tower(self):
        lines = ["block b0 a\ndevice n a a b 1 1"]
        lines.extend(f"block b{at} a\nuse b{at - 1} c" for at in range(1, 60))
        schematic = parse_schematic("\n".join(lines))
        self.assertEqual(self.agree(schematic, "b59").net_count, 61)

    def test_nothing_is_changed(self):
        schematic = parse_schematic(GATES)
        first = expand(schematic, "buf")
        self.assertEqual(expand(schematic, "buf"), first)
        self.assertEqual(schematic.block_names, ("inv", "buf"))


class Refusing(unittest.TestCase):
    def too_large(self, schematic, name):
        with self.assertRaises(TooLarge) as caught:
            expand(schematic, name)
        self.assertIs(type(caught.exception), TooLarge)
        self.assertEqual(caught.exception.limit, 200)

    def test_unknown_blocks(self):
        for name in ["nand", "", "INV"]:
            with self.assertRaises(UnknownCell) as caught:
                expand(parse_schematic(GATES), name)
            self.assertIs(type(caught.exception), UnknownCell)
            self.assertEqual(caught.exception.name, name)

    def test_devices(self):
        device = ("n", "a", "a", "a", 1, 1)
        for count in (200, 201):
            schematic = Schematic([Block("a", ["a"], [device] * (count - 100), []),
                                   Block("b", [], [device] * 100, [("a", ("a",))])])
            self.assertEqual(schematic.device_count("b"), count)
            if count == 200:
                self.assertEqual(len(expand(schematic, "b").devices), 200)
            else:
                self.too_large(schematic, "b")
                self.assertEqual(len(expand(schematic, "a").devices), 101)

    def test_nets(self):
        for count in (200, 201):
            nets = [f"n{at}" for at in range(count - 100)]
            schematic = Schematic([Block("a", nets, [], []), Block("w", [f"x{at}" for at in range(100)], [], []),
                                   Block("b", [], [], [("w", tuple(f"y{at}" for at in range(100))), ("a", tuple(nets))])])
            self.assertEqual(schematic.count_nets("b"), count)
            if count == 200:
                self.assertEqual(expand(schematic, "b"), Circuit(200, [], []))
            else:
                self.too_large(schematic, "b")

    def test_uses(self):
        for count in (200, 201):
            schematic = Schematic([Block("e", [], [], []), Block("a", [], [], [("e", ())] * (count - 101)),
                                   Block("b", [], [], [("e", ())] * 100 + [("a", ())])])
            self.assertEqual(schematic.use_count("b"), count)
            if count == 200:
                self.assertEqual(expand(schematic, "b"), Circuit(0, [], []))
            else:
                self.too_large(schematic, "b")

    def test_towers(self):
        blocks = [Block("b0", [], [], [])] + [Block(f"b{at}", [], [], [(f"b{at - 1}", ())] * 2) for at in range(1, 60)]
        self.too_large(Schematic(blocks), "b59")


def replaced(block, at, used, prefix):
    """A block with the devices and uses of the used block in place of one use, with its nets named anew."""
    _, nets = block.uses[at]
    names = {net: f"{prefix}{number}" for number, net in enumerate(own_nets(used))}
    names.update(zip(used.ports, nets))
    devices = [(kind, names[gate], names[end], names[other], *sizes) for kind, gate, end, other, *sizes in used.devices]
    uses = [(name, tuple(names[net] for net in others)) for name, others in used.uses]
    return Block(block.name, list(block.ports), [*block.devices, *devices], [*block.uses[:at], *uses, *block.uses[at + 1:]])


class Replacing(unittest.TestCase):
    def test_by_hand(self):
        schematic = parse_schematic(GATES)
        inverter, buffer = schematic.block("inv"), schematic.block("buf")
        flat = replaced(replaced(buffer, 0, inverter, "x"), 0, inverter, "y")
        self.assertEqual(flat.uses, ())
        self.assertIs(are_same(expand(schematic, "buf"), expand(Schematic([flat]), "buf")), True)

    def test_random_schematics(self):
        source, count = random.Random(2), 0
        while count < 40:
            blocks = random_blocks(source, 4, most_devices=2, most_uses=2)
            last, schematic = blocks[-1], Schematic(blocks)
            if not last.uses:
                continue
            at = source.randrange(len(last.uses))
            other = replaced(last, at, schematic.block(last.uses[at][0]), "z")
            if set(last.uses[at][1]) <= set(own_nets(other)):
                first, second = expand(schematic, "b3"), expand(Schematic([*blocks[:-1], other]), "b3")
                self.assertEqual((first.net_count, len(first.devices)), (second.net_count, len(second.devices)))
                self.assertIs(are_same(first, second), True)
                count += 1


if __name__ == "__main__":
    unittest.main()
