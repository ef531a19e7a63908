"""Point 63: written schematics."""

import random
import unittest

from reticle.errors import InvalidText
from reticle.schematics import Block, Schematic
from reticle.schematictext import format_schematic, parse_schematic
from tests.helpers import random_blocks

LONG = 10 ** 30 - 1

EXAMPLE = ("block inv a y vdd gnd\ndevice n a gnd y 2 1\ndevice p a vdd y 4 1\n"
           "block buf a y vdd gnd\nuse inv a m vdd gnd\nuse inv m y vdd gnd")

# Lines after which a device, a use of "inv" and a block are right.
BEGINNING = "block inv a y\nblock none\nblock top a"


def parts_of(schematic):
    """All the parts of the blocks of a schematic."""
    blocks = [schematic.block(name) for name in schematic.block_names]
    return [(block.name, block.ports, block.devices, block.uses) for block in blocks]


def shown(value):
    """A value with the kinds of all of its parts."""
    if isinstance(value, (tuple, list)):
        return (type(value), [shown(part) for part in value])
    return (type(value), value)


class Writing(unittest.TestCase):
    def agree(self, blocks, text):
        schematic = Schematic(blocks)
        self.assertEqual(format_schematic(schematic), text)
        found = parse_schematic(text)
        self.assertIsInstance(found, Schematic)
        self.assertEqual(shown(parts_of(found)), shown(parts_of(schematic)))
        self.assertEqual(format_schematic(found), text)

    def test_example(self):
        ports = ["a", "y", "vdd", "gnd"]
        self.agree([Block("inv", ports, [("n", "a", "gnd", "y", 2, 1), ("p", "a", "vdd", "y", 4, 1)], []),
                    Block("buf", ports, [], [("inv", ("a", "m", "vdd", "gnd")), ("inv", ("m", "y", "vdd", "gnd"))])], EXAMPLE)

    def test_devices_before_uses(self):
        self.agree([Block("e", [], [], []), Block("one", ["x"], [("n", "x", "b", "a", 1, 2)], []),
                    Block("top", ["z", "a"], [("p", "z", "z", "z", 3, 4), ("n", "q", "p", "n", 5, 6)],
                          [("one", ("z",)), ("e", ()), ("one", ("q",))])],
                   "block e\nblock one x\ndevice n x b a 1 2\nblock top z a\ndevice p z z z 3 4\ndevice n q p n 5 6\n"
                   "use one z\nuse e\nuse one q")

    def test_empty(self):
        self.agree([], "")
        self.assertEqual(parse_schematic("").block_names, ())

    def test_blocks_without_anything(self):
        self.agree([Block("a", [], [], [])], "block a")
        self.agree([Block("a", [], [], []), Block("b", ["x"], [], []), Block("c", [], [], [("a", ())])],
                   "block a\nblock b x\nblock c\nuse a")

    def test_long_integers(self):
        self.agree([Block("a", [], [("n", "a", "b", "c", LONG, LONG), ("n", "a", "b", "c", 1, 10 ** 29)], [])],
                   f"block a\ndevice n a b c {LONG} {LONG}\ndevice n a b c 1 {10 ** 29}")

    def test_sixty_blocks(self):
        self.agree([Block(f"b{at}", [], [], []) for at in range(60)], "\n".join(f"block b{at}" for at in range(60)))

    def test_names_that_have_a_meaning(self):
        self.agree([Block("block", ["device", "use"], [("n", "n", "p", "block", 1, 1)], []),
                    Block("use", [], [], [("block", ("use", "use"))])],
                   "block block device use\ndevice n n p block 1 1\nblock use\nuse block use use")

    def test_there_and_back(self):
        source = random.Random(1)
        for _ in range(80):
            blocks = random_blocks(source, source.randint(1, 7), sizes=LONG)
            self.agree(blocks, format_schematic(Schematic(blocks)))


class Refusing(unittest.TestCase):
    def refused(self, text, line):
        with self.assertRaises(InvalidText) as caught:
            parse_schematic(text)
        self.assertIs(type(caught.exception), InvalidText)
        self.assertEqual(caught.exception.line, line, text[:200])

    def wrong_line(self, line, before=BEGINNING):
        """The line is wrong behind these lines, whatever follows it."""
        number = before.count("\n") + 2
        self.refused(f"{before}\n{line}", number)
        self.refused(f"{before}\n{line}\nblock last\nwhat", number)

    def right_line(self, line, before=BEGINNING):
        self.assertEqual(format_schematic(parse_schematic(f"{before}\n{line}")), f"{before}\n{line}")

    def test_right_lines(self):
        for line in ["block b", "block b c d", "device n a b c 1 1", "use inv x x", "use none"]:
            self.right_line(line)

    def test_first_lines(self):
        for text in ["device n a b c 1 1", "use none", "use inv a y", "what", "inv a y", "", "block", "block ", "Block a"]:
            if text:
                self.refused(text, 1)
            self.refused(f"{text}\nblock a", 1)

    def test_unknown_words(self):
        for line in ["what", "blocks b", "Block b", "Device n a b c 1 1", "devices n a b c 1 1", "uses inv a b", "a",
                     "inv a b", "n a b c 1 1", "cell b", "1"]:
            self.wrong_line(line)

    def test_words_too_few_or_too_many(self):
        for line in ["block", "device", "device n a b c 1", "device n a b c 1 1 1", "device n a b 1 1", "device n a b c d 1 1",
                     "use", "use inv", "use inv a", "use inv a b c", "use none a"]:
            self.wrong_line(line)

    def test_spaces(self):
        for line in ["block b c d", "device n a b c 1 1", "use inv x y", "block b", "use none"]:
            self.wrong_line(" " + line)
            self.wrong_line(line + " ")
            words = line.split(" ")
            for at in range(1, len(words)):
                self.wrong_line(" ".join(words[:at]) + "  " + " ".join(words[at:]))

    def test_empty_lines_and_newlines(self):
        self.wrong_line("")
        self.wrong_line(" ")
        self.refused("\n", 1)
        self.refused("block a\n", 2)
        self.refused(EXAMPLE + "\n", 7)
        self.refused("\nblock a", 1)

    def test_integers(self):
        for word in ["+1", "01", "-0", "0", "00", "-1", "", "-", "a", "1.0", "1_0", "1" * 31, "9" * 4000]:
            self.wrong_line(f"device n a b c {word} 1")
            self.wrong_line(f"device n a b c 1 {word}")
        self.right_line(f"device n a b c {LONG} 1")

    def test_names(self):
        for name in ["", "A", "9", "a_", "longestname12", "-"]:
            self.wrong_line(f"block {name}")
            self.wrong_line(f"block b {name}")
            self.wrong_line(f"block b x {name} y")
            self.wrong_line(f"device n {name} b c 1 1")
            self.wrong_line(f"device n a {name} c 1 1")
            self.wrong_line(f"device n a b {name} 1 1")
            self.wrong_line(f"use {name} a b")
            self.wrong_line(f"use inv a {name}")
            self.wrong_line(f"use inv {name} a")

    def test_kinds(self):
        for kind in ["N", "x", "np", "", "0"]:
            self.wrong_line(f"device {kind} a b c 1 1")

    def test_equal_ports(self):
        self.wrong_line("block b x x")
        self.wrong_line("block b x y z x")
        self.right_line("block b b x")

    def test_a_block_twice(self):
        for name in ["inv", "none", "top"]:
            self.wrong_line(f"block {name}")
            self.wrong_line(f"block {name} z")

    def test_what_is_used_stands_before(self):
        self.wrong_line("use top a")
        self.wrong_line("use other a")
        self.refused("block a\nuse b\nblock b", 2)
        self.refused("block a\nuse a", 2)
        self.right_line("block z\nuse top a")

    def test_one_net_for_each_port(self):
        self.wrong_line("use inv a")
        self.wrong_line("use inv a b c")
        self.wrong_line("use none a")

    def test_a_device_behind_a_use(self):
        self.wrong_line("device n a b c 1 1", before=BEGINNING + "\nuse none")
        self.wrong_line("device n a b c 1 1", before=BEGINNING + "\ndevice n a b c 1 1\nuse inv a a")
        self.right_line("block z\ndevice n a b c 1 1", before=BEGINNING + "\nuse none")

    def test_a_block_too_many(self):
        lines = [f"block b{at}" for at in range(60)]
        self.refused("\n".join(lines + ["block b60"]), 61)
        self.refused("\n".join(lines + ["use b0", "block c", "what"]), 62)

    def test_the_first_wrong_line(self):
        self.refused("block a x\nuse a x\nwhat\nblock a", 2)
        self.refused("block a\ndevice n a b c 1 1\ndevice n a b c 0 1\nuse a", 3)


if __name__ == "__main__":
    unittest.main()
