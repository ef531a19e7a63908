"""Point 60, and the counts of point 61: blocks and schematics."""

import random
import unittest

from reticle.errors import InvalidBlock, InvalidSchematic, UnknownCell
from reticle.schematics import Block, Schematic, own_nets
from tests.helpers import HUGE, random_blocks

DEVICE = ("n", "a", "gnd", "y", 2, 1)

INVERTER = Block("inv", ["a", "y", "vdd", "gnd"], [DEVICE, ("p", "a", "vdd", "y", 4, 1)], [])

BUFFER = Block("buf", ["a", "y", "vdd", "gnd"], [], [("inv", ("a", "m", "vdd", "gnd")), ("inv", ("m", "y", "vdd", "gnd"))])


def empty(name):
    """A block without anything."""
    return Block(name, [], [], [])


class Blocks(unittest.TestCase):
    def test_fields(self):
        ports, devices, uses = ["b", "a"], [DEVICE, DEVICE], [("inv", ("a", "a", "z", "b")), ("empty", ())]
        block = Block("top", ports, devices, uses)
        self.assertEqual((block.name, block.ports), ("top", tuple(ports)))
        self.assertEqual((block.devices, block.uses), (tuple(devices), tuple(uses)))
        self.assertEqual(sorted(vars(block)), ["devices", "name", "ports", "uses"])

    def test_lists_stay_and_are_copied(self):
        ports, devices, uses = ["b", "a"], [DEVICE], [("inv", ("a",))]
        block = Block("top", ports, devices, uses)
        self.assertEqual((ports, devices, uses), (["b", "a"], [DEVICE], [("inv", ("a",))]))
        for part in (ports, devices, uses):
            part.append("x")
        self.assertEqual((block.ports, block.devices, block.uses), (("b", "a"), (DEVICE,), (("inv", ("a",)),)))

    def test_right_ones(self):
        Block("a", [], [], [])
        Block("a", ["a"], [("p", "a", "a", "a", 1, 1), ("n", "z9", "longestname1", "b", HUGE, HUGE)], [("a", ("a", "a"))])
        # A block may be called by a word that has a meaning elsewhere.
        Block("block", ["device", "use"], [("n", "n", "p", "n", 1, 1)], [("use", ("metal",))])

    def wrong(self, *arguments):
        with self.assertRaises(InvalidBlock) as caught:
            Block(*arguments)
        self.assertIs(type(caught.exception), InvalidBlock)

    def test_names(self):
        for name in ["", "A", "9", "a_", "longestname12", "a b", "-"]:
            self.wrong(name, [], [], [])
            self.wrong("b", [name], [], [])
            self.wrong("b", ["a", name], [], [])
            for at in (1, 2, 3):
                self.wrong("b", [], [DEVICE, (*DEVICE[:at], name, *DEVICE[at + 1:])], [])
            self.wrong("b", [], [], [(name, ("a",))])
            self.wrong("b", [], [], [("inv", ("a",)), ("inv", ("a", name))])

    def test_equal_ports(self):
        self.wrong("b", ["a", "a"], [], [])
        self.wrong("b", ["a", "c", "d", "c"], [], [])

    def test_kinds(self):
        for kind in ["", "N", "np", "x", "device", "0"]:
            self.wrong("b", [], [(kind, *DEVICE[1:])], [])
            self.wrong("b", [], [DEVICE, (kind, *DEVICE[1:])], [])

    def test_sizes(self):
        for size in (0, -1, -HUGE):
            self.wrong("b", [], [(*DEVICE[:4], size, 1)], [])
            self.wrong("b", [], [(*DEVICE[:4], 1, size)], [])
            self.wrong("b", [], [DEVICE, (*DEVICE[:4], 5, size)], [])


class OwnNets(unittest.TestCase):
    def test_ports_devices_and_uses(self):
        block = Block("top", ["b", "a"], [("n", "g", "e", "d", 1, 1), ("p", "e", "b", "c", 1, 1)],
                      [("inv", ("z", "d", "y")), ("inv", ("z", "y", "x"))])
        self.assertEqual(own_nets(block), ["b", "a", "g", "e", "d", "c", "z", "y", "x"])

    def test_each_net_once(self):
        block = Block("top", ["a"], [("n", "b", "b", "b", 1, 1), ("n", "a", "c", "b", 1, 1)], [("x", ("d", "d", "a", "c"))])
        self.assertEqual(own_nets(block), ["a", "b", "c", "d"])

    def test_only_in_one_place(self):
        self.assertEqual(own_nets(empty("a")), [])
        self.assertEqual(own_nets(Block("a", ["z", "b"], [], [])), ["z", "b"])
        self.assertEqual(own_nets(Block("a", [], [("n", "z", "y", "b", 1, 1)], [])), ["z", "y", "b"])
        # The ends stay in the order in which they are written.
        self.assertEqual(own_nets(Block("a", [], [("n", "z", "b", "y", 1, 1)], [])), ["z", "b", "y"])
        self.assertEqual(own_nets(Block("a", [], [], [("u", ("z", "b", "z"))])), ["z", "b"])

    def test_the_names_of_used_blocks_are_no_nets(self):
        self.assertEqual(own_nets(Block("a", [], [], [("u", ()), ("w", ("a",))])), ["a"])

    def test_new_lists(self):
        own_nets(BUFFER).append("x")
        self.assertEqual(own_nets(BUFFER), ["a", "y", "vdd", "gnd", "m"])


class Schematics(unittest.TestCase):
    def test_names_and_blocks(self):
        blocks = [INVERTER, BUFFER, empty("z"), empty("a")]
        schematic = Schematic(blocks)
        self.assertEqual(schematic.block_names, ("inv", "buf", "z", "a"))
        self.assertIsInstance(vars(Schematic)["block_names"], property)
        for block in blocks:
            self.assertIs(schematic.block(block.name), block)

    def test_empty(self):
        self.assertEqual(Schematic([]).block_names, ())

    def test_lists_stay_and_are_copied(self):
        blocks = [INVERTER]
        schematic = Schematic(blocks)
        self.assertEqual(blocks, [INVERTER])
        blocks.append(BUFFER)
        self.assertEqual(schematic.block_names, ("inv",))

    def test_unknown_blocks(self):
        schematic = Schematic([INVERTER])
        for name in ["buf", "", "INV", "inv "]:
            for ask in (schematic.block, schematic.device_count, schematic.count_nets, schematic.use_count):
                with self.assertRaises(UnknownCell) as caught:
                    ask(name)
                self.assertIs(type(caught.exception), UnknownCell)
                self.assertEqual(caught.exception.name, name)

    def wrong(self, *blocks):
        blocks = list(blocks)
        copy = list(blocks)
        with self.assertRaises(InvalidSchematic) as caught:
            Schematic(blocks)
        self.assertIs(type(caught.exception), InvalidSchematic)
        self.assertEqual(blocks, copy)

    def test_sixty_blocks(self):
        blocks = [empty(f"b{at}") for at in range(61)]
        self.assertEqual(len(Schematic(blocks[:60]).block_names), 60)
        self.wrong(*blocks)

    def test_equal_names(self):
        self.wrong(INVERTER, INVERTER)
        self.wrong(empty("a"), empty("b"), Block("a", ["x"], [], []))

    def test_what_is_used_stands_before(self):
        self.wrong(BUFFER)
        self.wrong(BUFFER, INVERTER)
        self.wrong(INVERTER, Block("a", [], [], [("b", ())]))
        self.wrong(Block("a", [], [], [("a", ())]))
        self.wrong(empty("b"), Block("a", [], [], [("b", ()), ("a", ())]))
        Schematic([INVERTER, empty("b"), Block("a", [], [], [("b", ()), ("inv", ("a", "a", "a", "a"))])])

    def test_one_net_for_each_port(self):
        for nets in [(), ("a",), ("a", "b", "c"), ("a", "b", "c", "d", "e")]:
            self.wrong(INVERTER, Block("top", [], [], [("inv", nets)]))
            self.wrong(INVERTER, Block("top", [], [], [("inv", ("a", "b", "c", "d")), ("inv", nets)]))
        self.wrong(empty("b"), Block("top", [], [], [("b", ("a",))]))


def plain_counts(schematic, name):
    """The numbers of devices, nets and uses, by following every use."""
    block = schematic.block(name)
    devices, nets, uses = len(block.devices), len(own_nets(block)), len(block.uses)
    for used, _ in block.uses:
        more = plain_counts(schematic, used)
        devices, uses = devices + more[0], uses + more[2]
        nets += more[1] - len(schematic.block(used).ports)
    return devices, nets, uses


class Counts(unittest.TestCase):
    def counts(self, schematic, name):
        return schematic.device_count(name), schematic.count_nets(name), schematic.use_count(name)

    def test_by_hand(self):
        schematic = Schematic([INVERTER, BUFFER, Block("two", ["i"], [DEVICE], [
            ("buf", ("i", "k", "v", "g")), ("buf", ("k", "o", "v", "g")), ("inv", ("o", "o", "o", "o"))])])
        self.assertEqual(self.counts(schematic, "inv"), (2, 4, 0))
        self.assertEqual(self.counts(schematic, "buf"), (4, 5, 2))
        # Its own nets are i, a, gnd, y, k, v, g and o, and each buffer has one more.
        self.assertEqual(self.counts(schematic, "two"), (11, 10, 7))

    def test_one_net_at_several_ports(self):
        # The two ports become one net, and the inner net stays one of its own.
        inner = Block("inner", ["a", "b"], [("n", "a", "b", "c", 1, 1)], [])
        schematic = Schematic([inner, Block("outer", ["z"], [], [("inner", ("z", "z")), ("inner", ("y", "y"))])])
        self.assertEqual(self.counts(schematic, "outer"), (2, 4, 2))

    def test_empty_blocks(self):
        schematic = Schematic([empty("a"), Block("b", [], [], [("a", ())] * 5), Block("c", ["x"], [], [("b", ())] * 3)])
        self.assertEqual(self.counts(schematic, "a"), (0, 0, 0))
        self.assertEqual(self.counts(schematic, "b"), (0, 0, 5))
        self.assertEqual(self.counts(schematic, "c"), (0, 1, 18))

    def test_against_following_every_use(self):
        source = random.Random(1)
        for _ in range(80):
            schematic = Schematic(random_blocks(source, source.randint(1, 6), most_uses=3))
            for name in schematic.block_names:
                self.assertEqual(self.counts(schematic, name), plain_counts(schematic, name))

    def test_towers(self):
        blocks = [Block("b0", ["a"], [("n", "a", "a", "c", 1, 1)], [])]
        for at in range(1, 60):
            blocks.append(Block(f"b{at}", ["a"], [], [(f"b{at - 1}", ("a",)), (f"b{at - 1}", ("c",))]))
        schematic = Schematic(blocks)
        for at in range(60):
            # Each use of the lowest block has one net of its own, and each block one more besides its port.
            expected = (2 ** at, 1 + 2 ** at + (2 ** at - 1), 2 ** (at + 1) - 2)
            self.assertEqual(self.counts(schematic, f"b{at}"), expected)

    def test_wide_towers(self):
        blocks = [Block("b0", [], [("n", "a", "b", "c", 1, 1)] * 10, [])]
        for at in range(1, 60):
            blocks.append(Block(f"b{at}", [], [], [(f"b{at - 1}", ())] * 1000))
        schematic = Schematic(blocks)
        self.assertEqual(schematic.device_count("b59"), 10 * 1000 ** 59)
        self.assertEqual(schematic.count_nets("b59"), 3 * 1000 ** 59)
        self.assertEqual(schematic.use_count("b59"), sum(1000 ** at for at in range(1, 60)))


if __name__ == "__main__":
    unittest.main()
