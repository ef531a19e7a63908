"""Point 76: telling what a comparison found."""

import random
import unittest

from reticle.circuits import Circuit
from reticle.comparing import compare
from reticle.telling import tell
from tests.helpers import mixed_up, random_circuit, rings


def lines_of(difference, indent):
    """The lines of a difference, part by part."""
    if difference[0] == "count":
        return [f"{indent}count {difference[1]}"]
    lines = [f"{indent}choose {difference[1]} {difference[2]}"]
    for net, inner in difference[3]:
        lines.extend([f"{indent}case {net}", *lines_of(inner, indent + "  ")])
    return lines


class Same(unittest.TestCase):
    def test_by_hand(self):
        self.assertEqual(tell(("same", ((2, 0, 1), (1, 0)))), "same\nnet 0 2\nnet 1 0\nnet 2 1\ndevice 0 1\ndevice 1 0")

    def test_without_nets_or_devices(self):
        self.assertEqual(tell(("same", ((), ()))), "same")
        self.assertEqual(tell(("same", ((0,), ()))), "same\nnet 0 0")

    def test_answers_of_compare(self):
        source = random.Random(1)
        for _ in range(20):
            circuit = random_circuit(source, source.randint(1, 12), source.randint(0, 15))
            answer = compare(circuit, mixed_up(source, circuit)[0])
            nets, devices = answer[1]
            lines = ["same"] + [f"net {at} {net}" for at, net in enumerate(nets)]
            lines += [f"device {at} {device}" for at, device in enumerate(devices)]
            self.assertEqual(tell(answer), "\n".join(lines))


class Different(unittest.TestCase):
    def test_example(self):
        self.assertEqual(tell(("different", ("choose", 1, 0, ((0, ("count", 1)), (2, ("count", 2)))))),
                         "different\nchoose 1 0\ncase 0\n  count 1\ncase 2\n  count 2")

    def test_counts(self):
        for step in (0, 1, 77):
            self.assertEqual(tell(("different", ("count", step))), f"different\ncount {step}")

    def test_a_choice_without_cases(self):
        self.assertEqual(tell(("different", ("choose", 3, 14, ()))), "different\nchoose 3 14")
        self.assertEqual(tell(("different", ("choose", 0, 0, ((5, ("choose", 3, 14, ())), (6, ("count", 9)))))),
                         "different\nchoose 0 0\ncase 5\n  choose 3 14\ncase 6\n  count 9")

    def test_three_deep(self):
        third = ("choose", 6, 7, ((0, ("count", 8)), (9, ("count", 10))))
        second = ("choose", 4, 5, ((2, ("count", 0)), (3, third), (4, ("count", 1))))
        first = ("choose", 1, 2, ((0, second), (11, ("count", 12))))
        self.assertEqual(tell(("different", first)), "\n".join([
            "different", "choose 1 2", "case 0", "  choose 4 5", "  case 2", "    count 0", "  case 3", "    choose 6 7",
            "    case 0", "      count 8", "    case 9", "      count 10", "  case 4", "    count 1", "case 11",
            "  count 12"]))

    def test_answers_of_compare(self):
        for first, second in [(rings(6), rings(3, 3)), (rings(3, 3, 3), rings(3, 6)), (rings(4, 4), rings(3, 5)),
                              (Circuit(1, [], []), Circuit(0, [], []))]:
            answer = compare(first, second)
            self.assertEqual(tell(answer), "\n".join(["different", *lines_of(answer[1], "")]))

    def test_nested_deeply(self):
        difference = ("count", 0)
        for net in range(190):
            difference = ("choose", 1, net, ((net, difference),))
        lines = tell(("different", difference)).split("\n")
        self.assertEqual(len(lines), 382)
        self.assertEqual(lines[-1], "  " * 190 + "count 0")
        self.assertEqual(lines[1:], lines_of(difference, ""))


if __name__ == "__main__":
    unittest.main()
