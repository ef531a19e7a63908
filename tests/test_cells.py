"""Points 15, 16 and 17: cells, libraries, and their counts."""

import unittest

from reticle.cells import Cell, Library
from reticle.errors import InvalidCell, InvalidLibrary, UnknownCell
from reticle.layouts import LAYERS
from tests.helpers import HUGE

BOX = (0, 0, 3, 1)

PLACED = ("bar", (1, 10, 0), 2, 1, 5, 0)


def placing(name, columns=1, rows=1):
    """A placement of a cell."""
    return (name, (0, 0, 0), columns, rows, 7, 7)


def empty_cells(count):
    """Cells with different names and nothing in them."""
    return [Cell(f"c{at}", [], [], []) for at in range(count)]


class ValidCells(unittest.TestCase):
    def test_fields(self):
        shapes = [("via", BOX), ("metal", BOX), ("metal", BOX)]
        labels = [("b", "metal", 0, 0), ("a", "top", -5, HUGE), ("b", "metal", 0, 0)]
        placements = [placing("z"), PLACED, placing("a")]
        cell = Cell("bar", shapes, labels, placements)
        self.assertEqual(cell.name, "bar")
        self.assertEqual(cell.shapes, tuple(shapes))
        self.assertEqual(cell.labels, tuple(labels))
        self.assertEqual(cell.placements, tuple(placements))

    def test_empty(self):
        cell = Cell("a", [], [], [])
        self.assertEqual((cell.shapes, cell.labels, cell.placements), ((), (), ()))

    def test_lists_are_copied(self):
        shapes, labels, placements = [("metal", BOX)], [("a", "metal", 0, 0)], [PLACED]
        cell = Cell("top", shapes, labels, placements)
        self.assertEqual((shapes, labels, placements), ([("metal", BOX)], [("a", "metal", 0, 0)], [PLACED]))
        for given in (shapes, labels, placements):
            given.clear()
        self.assertEqual(cell.shapes, (("metal", BOX),))
        self.assertEqual(cell.labels, (("a", "metal", 0, 0),))
        self.assertEqual(cell.placements, (PLACED,))

    def test_layers(self):
        for layer in LAYERS:
            self.assertEqual(Cell("a", [(layer, BOX)], [], []).shapes, ((layer, BOX),))
        for layer in ("active", "poly", "metal", "top"):
            self.assertEqual(len(Cell("a", [], [("x", layer, 0, 0)], []).labels), 1)

    def test_turns_and_numbers_of_copies(self):
        for turn in range(8):
            Cell("a", [], [], [("b", (turn, -HUGE, HUGE), 1, 100, -HUGE, 0)])
        for columns, rows in [(1, 1), (100, 100), (1, 100), (100, 1)]:
            Cell("a", [], [], [placing("b", columns, rows)])

    def test_a_placement_of_its_own_name(self):
        # Only a library refuses this.
        self.assertEqual(len(Cell("bar", [], [], [PLACED]).placements), 1)


class InvalidCells(unittest.TestCase):
    def refused(self, name="a", shapes=(), labels=(), placements=()):
        with self.assertRaises(InvalidCell) as caught:
            Cell(name, list(shapes), list(labels), list(placements))
        self.assertIs(type(caught.exception), InvalidCell)

    def test_names(self):
        for name in ["", "A", "9", "a b", "a" * 13, "a_"]:
            self.refused(name=name)
            self.refused(labels=[(name, "metal", 0, 0)])
            self.refused(placements=[placing(name)])

    def test_layers_of_shapes(self):
        for layer in ["", "steel", "Metal", "metal "]:
            self.refused(shapes=[(layer, BOX)])

    def test_layers_of_labels(self):
        for layer in ["well", "contact", "via", "", "steel"]:
            self.refused(labels=[("x", layer, 0, 0)])

    def test_boxes(self):
        for box in [(0, 0, 0, 1), (0, 0, 1, 0), (1, 0, 0, 1), (0, 1, 1, 0), (HUGE, 0, HUGE, 1)]:
            self.refused(shapes=[("metal", box)])

    def test_turns(self):
        for turn in (-1, 8, HUGE):
            self.refused(placements=[("b", (turn, 0, 0), 1, 1, 0, 0)])

    def test_numbers_of_copies(self):
        for number in (0, 101, -1, -HUGE, HUGE):
            self.refused(placements=[placing("b", columns=number)])
            self.refused(placements=[placing("b", rows=number)])

    def test_a_fault_behind_what_is_right(self):
        self.refused(shapes=[("metal", BOX), ("metal", (0, 0, 0, 1))])
        self.refused(labels=[("a", "metal", 0, 0), ("a", "via", 0, 0)])
        self.refused(placements=[PLACED, placing("b", rows=0)])


class Libraries(unittest.TestCase):
    def test_no_cells(self):
        self.assertEqual(Library([]).cell_names, ())

    def test_names_and_cells(self):
        cells = [Cell("zed", [], [], []), Cell("bar", [], [], [placing("zed")]), Cell("a", [], [], [])]
        library = Library(cells)
        self.assertEqual(library.cell_names, ("zed", "bar", "a"))
        for cell in cells:
            self.assertIs(library.cell(cell.name), cell)

    def test_sixty_and_sixty_one(self):
        self.assertEqual(len(Library(empty_cells(60)).cell_names), 60)
        with self.assertRaises(InvalidLibrary):
            Library(empty_cells(61))

    def test_the_list_is_copied(self):
        cells = empty_cells(3)
        library = Library(cells)
        self.assertEqual(len(cells), 3)
        cells.clear()
        self.assertEqual(library.cell_names, ("c0", "c1", "c2"))

    def refused(self, cells):
        with self.assertRaises(InvalidLibrary) as caught:
            Library(cells)
        self.assertIs(type(caught.exception), InvalidLibrary)

    def test_a_name_twice(self):
        self.refused([Cell("a", [], [], []), Cell("b", [], [], []), Cell("a", [("metal", BOX)], [], [])])

    def test_placements_of_cells_that_do_not_stand_before(self):
        bar = Cell("bar", [], [], [])
        self.refused([bar, Cell("a", [], [], [placing("a")])])
        self.refused([Cell("a", [], [], [placing("bar")]), bar])
        self.refused([bar, Cell("a", [], [], [placing("bar"), placing("foo")])])

    def test_unknown_cells(self):
        library = Library([Cell("bar", [], [], [])])
        for ask in (library.cell, library.shape_count, library.label_count, library.depth):
            for name in ("foo", "", "BAR"):
                with self.assertRaises(UnknownCell) as caught:
                    ask(name)
                self.assertEqual(caught.exception.name, name)


class Counts(unittest.TestCase):
    def test_own_shapes_and_labels(self):
        library = Library([Cell("a", [("metal", BOX), ("metal", BOX)], [("x", "metal", 0, 0)] * 3, [])])
        self.assertEqual(library.shape_count("a"), 2)
        self.assertEqual(library.label_count("a"), 3)
        self.assertEqual(library.depth("a"), 0)

    def test_nested(self):
        library = Library([
            Cell("a", [("metal", BOX), ("top", BOX)], [("x", "metal", 0, 0)], []),
            Cell("b", [("metal", BOX)], [], [placing("a", 3, 5), placing("a")]),
            Cell("c", [], [("y", "top", 0, 0)], [placing("a"), placing("b", 100, 100)]),
            Cell("d", [], [], []),
        ])
        self.assertEqual([library.shape_count(name) for name in "abcd"], [2, 33, 330002, 0])
        self.assertEqual([library.label_count(name) for name in "abcd"], [1, 16, 160002, 0])
        self.assertEqual([library.depth(name) for name in "abcd"], [0, 1, 2, 0])

    def test_depth_takes_the_deepest_placed_cell(self):
        library = Library([
            Cell("a", [], [], []), Cell("b", [], [], [placing("a")]), Cell("c", [], [], [placing("b")]),
            Cell("d", [], [], [placing("c"), placing("a")]), Cell("e", [], [], [placing("a"), placing("b")]),
        ])
        self.assertEqual([library.depth(name) for name in "abcde"], [0, 1, 2, 3, 2])

    def test_counts_with_forty_figures(self):
        cells = [Cell("c0", [("metal", BOX)], [("x", "metal", 0, 0)] * 2, [])]
        for at in range(1, 60):
            cells.append(Cell(f"c{at}", [], [], [placing(f"c{at - 1}", 100, 100)]))
        library = Library(cells)
        self.assertEqual(library.shape_count("c10"), 10 ** 40)
        self.assertEqual(library.label_count("c10"), 2 * 10 ** 40)
        self.assertEqual(library.shape_count("c59"), 10 ** (4 * 59))
        self.assertEqual(library.depth("c59"), 59)


if __name__ == "__main__":
    unittest.main()
