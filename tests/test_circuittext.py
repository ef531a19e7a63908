"""Point 40: written circuits."""

import random
import unittest

from reticle.circuits import Circuit
from reticle.circuittext import format_circuit, parse_circuit
from reticle.errors import InvalidText
from tests.helpers import random_circuit

LONG = 10 ** 30 - 1

BEGINNING = "nets 5\nname b 1\nname longestname1 3"

FULL = "\n".join(["nets 200"] + [f"name n{net} {net}" for net in range(200)]
                 + [f"device p {net} 0 {net} {LONG} {net + 1}" for net in range(200)])


class Writing(unittest.TestCase):
    def test_by_hand(self):
        circuit = Circuit(4, [(3, "a"), (0, "z9")], [("p", 2, 0, 3, 7, LONG), ("n", 0, 1, 1, 1, 1)])
        self.assertEqual(format_circuit(circuit),
                         f"nets 4\nname z9 0\nname a 3\ndevice p 2 0 3 7 {LONG}\ndevice n 0 1 1 1 1")

    def test_without_nets(self):
        self.assertEqual(format_circuit(Circuit(0, [], [])), "nets 0")
        self.assertEqual(parse_circuit("nets 0"), Circuit(0, [], []))

    def test_full(self):
        circuit = parse_circuit(FULL)
        self.assertEqual((circuit.net_count, len(circuit.names), len(circuit.devices)), (200, 200, 200))
        self.assertEqual(circuit.devices[199], ("p", 199, 0, 199, LONG, 200))
        self.assertEqual(format_circuit(circuit), FULL)

    def test_there_and_back(self):
        source = random.Random(1)
        for _ in range(60):
            circuit = random_circuit(source, source.randint(1, 9), source.randint(0, 6), sizes=LONG, names=3)
            again = parse_circuit(format_circuit(circuit))
            self.assertIsInstance(again, Circuit)
            self.assertEqual(again.net_count, circuit.net_count)
            self.assertEqual(again.names, circuit.names)
            self.assertEqual(again.devices, circuit.devices)
            self.assertEqual(format_circuit(again), format_circuit(circuit))


class Refusing(unittest.TestCase):
    def refused(self, text, line):
        with self.assertRaises(InvalidText) as caught:
            parse_circuit(text)
        self.assertIs(type(caught.exception), InvalidText)
        self.assertEqual(caught.exception.line, line, text)

    def wrong_line(self, line, before=BEGINNING):
        """The line is wrong behind these lines, whatever follows it."""
        number = before.count("\n") + 2
        self.refused(f"{before}\n{line}", number)
        self.refused(f"{before}\n{line}\ndevice n 0 0 0 1 1\nwhat", number)

    def test_beginning_is_right(self):
        self.assertEqual(parse_circuit(BEGINNING).names, ((1, "b"), (3, "longestname1")))

    def test_example(self):
        self.refused("nets 2\nname a 0\ndevice n 0 2 1 1 1", 3)

    def test_first_line(self):
        for text in ["", "\n", "nets", "nets ", "nets  1", " nets 1", "nets 1 ", "nets 1 1", "net 1", "Nets 1", "1",
                     "nets -1", "nets 201", f"nets {LONG}", f"nets {10 ** 30}", "nets +1", "nets 01", "nets -0",
                     "nets a", "nets 1.0", "name a 0", "device n 0 0 0 1 1", "nets 5\r", "nets\t5"]:
            self.refused(text, 1)
            self.refused(f"{text}\nnets 2", 1)

    def test_unknown_words(self):
        for line in ["what", "names a 4", "Name a 4", "devices n 0 1 2 1 1", "nets 5", "a", "4", "name", "device"]:
            self.wrong_line(line)

    def test_words_too_few_or_too_many(self):
        for line in ["name a", "name a 4 4", "name 4", "device n 0 1 2 1", "device n 0 1 2 1 1 1", "device 0 1 2 1 1"]:
            self.wrong_line(line)

    def test_spaces(self):
        for line in ["name a 4", "device n 0 1 2 1 1"]:
            self.assertIsInstance(parse_circuit(f"{BEGINNING}\n{line}"), Circuit)
            self.wrong_line(" " + line)
            self.wrong_line(line + " ")
            for at in range(line.count(" ")):
                words = line.split(" ")
                self.wrong_line(" ".join(words[:at + 1]) + "  " + " ".join(words[at + 1:]))

    def test_empty_lines_and_newlines(self):
        self.wrong_line("")
        self.wrong_line(" ")
        self.refused("nets 0\n", 2)
        self.refused("nets 1\ndevice n 0 0 0 1 1\n", 3)
        self.refused("\nnets 1", 1)

    def test_integers(self):
        for word in ["+1", "01", "-0", "00", "1" * 31, "", "a", "1.0", "0x1", "1_0", "--1", "-"]:
            self.wrong_line(f"name a {word}", before="nets 5")
            for at in range(5):
                numbers = ["1"] * 5
                numbers[at] = word
                self.wrong_line(f"device n {' '.join(numbers)}")

    def test_nets_out_of_range(self):
        for net in (5, 6, -1, LONG, -LONG):
            self.wrong_line(f"name a {net}")
            self.wrong_line(f"name a {net}", before="nets 5")
            self.wrong_line(f"device n {net} 1 2 1 1")
            self.wrong_line(f"device n 0 {net} {net} 1 1")
        self.wrong_line("device n 0 1 5 1 1")
        self.wrong_line("device n 0 -1 2 1 1")
        self.wrong_line("name a 0", before="nets 0")

    def test_nets_of_names_ascend(self):
        self.wrong_line("name a 3")
        self.wrong_line("name a 2")
        self.wrong_line("name a 0")
        self.assertEqual(parse_circuit(BEGINNING + "\nname a 4").names[-1], (4, "a"))

    def test_names(self):
        for name in ["", "A", "1a", "a_", "longestname12", "a-", "-", "aB", "$", "4"]:
            self.wrong_line(f"name {name} 4")

    def test_names_that_were_used(self):
        self.wrong_line("name b 4")
        self.wrong_line("name longestname1 4")

    def test_a_name_behind_a_device(self):
        self.wrong_line("name a 4", before=BEGINNING + "\ndevice n 0 1 2 1 1")
        self.wrong_line("nets 5", before=BEGINNING + "\ndevice n 0 1 2 1 1")

    def test_devices(self):
        for kind in ["N", "x", "np", "", "0"]:
            self.wrong_line(f"device {kind} 0 1 2 1 1")
        self.wrong_line("device n 0 2 1 1 1")
        for number in (0, -1, -LONG):
            self.wrong_line(f"device n 0 1 2 {number} 1")
            self.wrong_line(f"device n 0 1 2 1 {number}")

    def test_a_device_too_many(self):
        self.refused(FULL + "\ndevice n 0 0 0 1 1", 402)
        self.refused(FULL + "\ndevice n 0 0 0 1 1\nwhat", 402)
        lines = ["nets 1"] + ["device n 0 0 0 1 1"] * 201
        self.refused("\n".join(lines), 202)

    def test_the_first_wrong_line(self):
        self.refused("nets 2\nname a 0\nwhat\nname A 1\n", 3)
        self.refused("nets 2\nname a 1\ndevice n 0 0 0 1 1\ndevice n 0 0 2 1 1\ndevice n 0 0 0 0 1", 4)


if __name__ == "__main__":
    unittest.main()
