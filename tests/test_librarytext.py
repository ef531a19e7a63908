"""Points 19 and 20: written libraries."""

import unittest

from reticle.cells import Cell, Library
from reticle.errors import InvalidText
from reticle.layouts import LAYERS
from reticle.librarytext import format_library, parse_library

EXAMPLE = "cell bar\nshape metal 0 0 3 1\nlabel a metal 0 0\ncell top\nplace bar 1 10 0 2 1 5 0"

LONG = 10 ** 30 - 1

RICH = "\n".join([
    "cell zed",
    f"shape metal -{LONG} -{LONG} {LONG} {LONG}",
    "shape well 0 0 1 1",
    "shape well 0 0 1 1",
    f"label b top {LONG} -{LONG}",
    "label a metal 0 0",
    "cell a",
    "cell bar9",
    f"place zed 7 {LONG} -{LONG} 100 100 -{LONG} {LONG}",
    "place a 0 0 0 1 1 0 0",
    "place zed 4 -1 -2 3 4 -5 -6",
    "cell longestname1",
    "label b2 poly -3 -4",
    "place bar9 1 0 0 1 2 0 0",
])


def parts_of(library):
    """All the parts of the cells of a library."""
    cells = [library.cell(name) for name in library.cell_names]
    return [(cell.name, cell.shapes, cell.labels, cell.placements) for cell in cells]


class Writing(unittest.TestCase):
    def test_example(self):
        self.assertEqual(format_library(parse_library(EXAMPLE)), EXAMPLE)

    def test_empty(self):
        self.assertEqual(format_library(Library([])), "")
        self.assertEqual(parse_library("").cell_names, ())

    def test_lines_of_a_cell_in_their_orders(self):
        inner = Cell("in", [], [], [])
        cell = Cell("out", [("via", (-1, 0, 1, 2)), ("active", (5, 5, 6, 6))],
                    [("z", "top", 1, 2), ("a", "active", -3, 0)],
                    [("in", (3, -1, 2), 4, 5, -6, 7), ("in", (0, 0, 0), 1, 1, 0, 0)])
        self.assertEqual(format_library(Library([inner, cell])), "\n".join([
            "cell in", "cell out", "shape via -1 0 1 2", "shape active 5 5 6 6", "label z top 1 2",
            "label a active -3 0", "place in 3 -1 2 4 5 -6 7", "place in 0 0 0 1 1 0 0",
        ]))


class Reading(unittest.TestCase):
    def test_parts(self):
        library = parse_library(EXAMPLE)
        self.assertIsInstance(library, Library)
        self.assertEqual(parts_of(library), [
            ("bar", (("metal", (0, 0, 3, 1)),), (("a", "metal", 0, 0),), ()),
            ("top", (), (), (("bar", (1, 10, 0), 2, 1, 5, 0),)),
        ])

    def test_there_and_back(self):
        for text in ["", "cell a", "cell a\ncell b", EXAMPLE, RICH]:
            library = parse_library(text)
            self.assertEqual(format_library(library), text)
            self.assertEqual(parts_of(parse_library(format_library(library))), parts_of(library))

    def test_long_integers(self):
        cell = parse_library(RICH).cell("zed")
        self.assertEqual(cell.shapes[0], ("metal", (-LONG, -LONG, LONG, LONG)))
        self.assertEqual(cell.labels[0], ("b", "top", LONG, -LONG))

    def test_each_layer(self):
        for layer in LAYERS:
            self.assertEqual(len(parse_library(f"cell a\nshape {layer} 0 0 1 1").cell("a").shapes), 1)
        for layer in ("active", "poly", "metal", "top"):
            self.assertEqual(len(parse_library(f"cell a\nlabel x {layer} 0 0").cell("a").labels), 1)

    def test_sixty_cells(self):
        lines = [f"cell c{at}" for at in range(60)]
        self.assertEqual(len(parse_library("\n".join(lines)).cell_names), 60)


class Refusing(unittest.TestCase):
    def refused(self, text, line):
        with self.assertRaises(InvalidText) as caught:
            parse_library(text)
        self.assertIs(type(caught.exception), InvalidText)
        self.assertEqual(caught.exception.line, line, text)

    def wrong_line(self, line, before="cell in\ncell out"):
        """The line is wrong behind these lines, whatever follows it."""
        number = before.count("\n") + 2
        self.refused(f"{before}\n{line}", number)
        self.refused(f"{before}\n{line}\ncell last\nshape well 0 0 1 1\nwhat", number)

    def test_example(self):
        self.refused("cell bar\nshape metal 0 0 0 1", 2)

    def test_unknown_words(self):
        for line in ["what", "cells a", "Cell a", "shapes metal 0 0 1 1", "placement in 0 0 0 1 1 0 0", "a", "0"]:
            self.wrong_line(line)

    def test_words_too_few_or_too_many(self):
        for line in ["cell", "cell a b", "shape", "shape metal 0 0 1", "shape metal 0 0 1 1 1", "label a metal 0",
                     "label a metal 0 0 0", "place in 0 0 0 1 1 0", "place in 0 0 0 1 1 0 0 0", "place"]:
            self.wrong_line(line)

    def test_spaces(self):
        for line in ["shape metal 0 0 1 1", "label a metal 0 0", "place in 0 0 0 1 1 0 0", "cell a"]:
            self.wrong_line(" " + line)
            self.wrong_line(line + " ")
            for at in range(line.count(" ")):
                words = line.split(" ")
                self.wrong_line(" ".join(words[:at + 1]) + "  " + " ".join(words[at + 1:]))

    def test_empty_lines(self):
        self.refused("\n", 1)
        self.refused("\ncell a", 1)
        self.refused("cell a\n\ncell b", 2)
        self.refused(" ", 1)

    def test_newline_at_the_end(self):
        self.refused("cell a\n", 2)
        self.refused(EXAMPLE + "\n", 6)

    def test_integers(self):
        for word in ["+1", "01", "-0", "00", "-01", "", "-", "a", "1.0", "1_0", "1" * 31, "-" + "1" * 31]:
            self.wrong_line(f"shape metal {word} -5 9{'9' * 29} 5")
            self.wrong_line(f"shape metal -5 -5 5 {word}")
            self.wrong_line(f"label a metal {word} 0")
            self.wrong_line(f"label a metal 0 {word}")
            for at in range(7):
                numbers = ["1"] * 7
                numbers[at] = word
                self.wrong_line("place in " + " ".join(numbers))

    def test_names(self):
        for name in ["A", "9", "a_", "a" * 13, "-"]:
            self.wrong_line(f"cell {name}")
            self.wrong_line(f"label {name} metal 0 0")
            self.wrong_line(f"place {name} 0 0 0 1 1 0 0")

    def test_layers(self):
        for layer in ["steel", "Metal", "in"]:
            self.wrong_line(f"shape {layer} 0 0 1 1")
            self.wrong_line(f"label a {layer} 0 0")
        for layer in ["well", "contact", "via"]:
            self.wrong_line(f"label a {layer} 0 0")

    def test_boxes_without_squares(self):
        for sides in ["0 0 0 1", "0 0 1 0", "1 0 0 1", "0 1 1 0", "0 0 -1 -1"]:
            self.wrong_line(f"shape metal {sides}")

    def test_turns(self):
        for turn in ["-1", "8", "9" * 30]:
            self.wrong_line(f"place in {turn} 0 0 1 1 0 0")

    def test_numbers_of_copies(self):
        for number in ["0", "101", "-1", "9" * 30]:
            self.wrong_line(f"place in 0 0 0 {number} 1 0 0")
            self.wrong_line(f"place in 0 0 0 1 {number} 0 0")

    def test_order_of_lines(self):
        shape, label, place = "shape metal 0 0 1 1", "label a metal 0 0", "place in 0 0 0 1 1 0 0"
        for before, line in [(label, shape), (place, shape), (place, label)]:
            self.wrong_line(line, f"cell in\ncell out\n{before}")
            self.wrong_line(line, f"cell in\ncell out\n{shape}\n{before}")

    def test_order_begins_anew_with_each_cell(self):
        text = "cell in\nlabel a metal 0 0\ncell out\nshape metal 0 0 1 1\nplace in 0 0 0 1 1 0 0\ncell b\nshape via 0 0 1 1"
        self.assertEqual(format_library(parse_library(text)), text)

    def test_before_the_first_cell(self):
        for line in ["shape metal 0 0 1 1", "label a metal 0 0", "place in 0 0 0 1 1 0 0"]:
            self.refused(line, 1)
            self.refused(f"{line}\ncell in", 1)

    def test_names_used_before(self):
        self.refused("cell a\ncell a", 2)
        self.refused("cell a\ncell b\nshape well 0 0 1 1\ncell a", 4)

    def test_placed_cells(self):
        place = "place {} 0 0 0 1 1 0 0"
        self.refused("cell a\n" + place.format("a"), 2)
        self.refused("cell b\ncell a\n" + place.format("a"), 3)
        self.refused("cell a\n" + place.format("b") + "\ncell b", 2)
        self.refused("cell b\ncell a\n" + place.format("b") + "\n" + place.format("c"), 4)

    def test_a_sixty_first_cell(self):
        lines = [f"cell c{at}" for at in range(61)]
        self.refused("\n".join(lines), 61)
        self.refused("\n".join(lines[:60] + ["shape metal 0 0 1 1"] + lines[60:]), 62)

    def test_the_first_wrong_line_counts(self):
        self.refused("cell a\nwhat\n\nshape metal 0 0 0 0", 2)
        self.refused("cell a\nlabel x metal 0 0\nshape metal 0 0 1 1\ncell a", 3)


if __name__ == "__main__":
    unittest.main()
