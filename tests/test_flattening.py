"""Points 15, 17, 18 and 56: copies and flattened cells."""

import random
import unittest

from reticle.cells import Cell, Library
from reticle.errors import InvalidLibrary, TooLarge, UnknownCell
from reticle.flattening import copies, flatten
from reticle.layouts import Layout
from reticle.moves import chain, move_box, move_square
from tests.helpers import HUGE, TURN_COUNT, cut_up, samples

BAR = Cell("bar", [("metal", (0, 0, 3, 1)), ("poly", (2, 0, 3, 2))], [("a", "metal", 0, 0), ("b", "poly", 2, 1)], [])


def image(cell, moves):
    """The layout of several images of a cell without placements."""
    shapes = [(layer, move_box(move, box)) for move in moves for layer, box in cell.shapes]
    labels = [(name, layer, *move_square(move, x, y)) for move in moves for name, layer, x, y in cell.labels]
    return Layout(shapes, labels)


def together(layouts):
    """The layout of everything that is in one of the layouts."""
    shapes = [shape for layout in layouts for shape in layout.shapes()]
    return Layout(shapes, [label for layout in layouts for label in layout.labels])


class Copies(unittest.TestCase):
    def test_row_by_row_and_column_by_column(self):
        self.assertEqual(copies(("bar", (5, 10, 20), 3, 2, 4, 7)), [
            (5, 10, 20), (5, 14, 20), (5, 18, 20), (5, 10, 27), (5, 14, 27), (5, 18, 27),
        ])

    def test_steps_of_both_signs_and_zero(self):
        self.assertEqual(copies(("bar", (0, 0, 0), 2, 2, -3, 0)), [(0, 0, 0), (0, -3, 0), (0, 0, 0), (0, -3, 0)])
        self.assertEqual(copies(("bar", (3, 1, 1), 1, 2, 9, -HUGE)), [(3, 1, 1), (3, 1, 1 - HUGE)])

    def test_one_and_many(self):
        self.assertEqual(copies(("bar", (7, 1, 2), 1, 1, 5, 5)), [(7, 1, 2)])
        many = copies(("bar", (0, 0, 0), 100, 100, 1, 1000))
        self.assertEqual(many, [(0, i, 1000 * j) for j in range(100) for i in range(100)])

    def test_new_list_each_time(self):
        placement = ("bar", (0, 0, 0), 1, 1, 0, 0)
        copies(placement).clear()
        self.assertEqual(copies(placement), [(0, 0, 0)])


class Flatten(unittest.TestCase):
    def test_example(self):
        inner = Cell("bar", [("metal", (0, 0, 3, 1))], [("a", "metal", 0, 0)], [])
        outer = Cell("top", [], [], [("bar", (1, 10, 0), 2, 1, 5, 0)])
        layout = flatten(Library([inner, outer]), "top")
        self.assertEqual(layout.region("metal"), ((9, 0, 10, 3), (14, 0, 15, 3)))
        self.assertEqual(layout.labels, (("a", "metal", 9, 0), ("a", "metal", 14, 0)))

    def test_example_of_a_refused_library(self):
        with self.assertRaises(InvalidLibrary):
            Library([Cell("top", [], [], [("bar", (0, 0, 0), 1, 1, 0, 0)]), Cell("bar", [], [], [])])

    def test_without_placements(self):
        layout = flatten(Library([BAR]), "bar")
        self.assertIsInstance(layout, Layout)
        self.assertEqual(layout, Layout(list(BAR.shapes), list(BAR.labels)))

    def test_empty_cell(self):
        self.assertEqual(flatten(Library([Cell("a", [], [], [])]), "a"), Layout([], []))

    def test_images_by_hand(self):
        for turn in range(TURN_COUNT):
            placement = ("bar", (turn, 30, -7), 3, 2, -11, HUGE)
            top = Cell("top", [("top", (0, 0, 1, 1))], [("t", "top", 0, 0)], [placement])
            moves = [(turn, 30 - 11 * i, -7 + HUGE * j) for j in range(2) for i in range(3)]
            own = Layout([("top", (0, 0, 1, 1))], [("t", "top", 0, 0)])
            self.assertEqual(flatten(Library([BAR, top]), "top"), together([own, image(BAR, moves)]))

    def test_nested_two_deep(self):
        for inner in range(TURN_COUNT):
            for outer in range(TURN_COUNT):
                middle = Cell("mid", [("via", (1, 1, 2, 5))], [], [("bar", (inner, 4, -2), 2, 1, 6, 0)])
                top = Cell("top", [], [], [("mid", (outer, -9, 3), 1, 2, 0, -40), ("bar", (0, 99, 99), 1, 1, 0, 0)])
                shapes, moves = [], [(0, 99, 99)]
                for copy in [(outer, -9, 3), (outer, -9, -37)]:
                    shapes.append(("via", move_box(copy, (1, 1, 2, 5))))
                    moves.extend([chain((inner, 4, -2), copy), chain((inner, 10, -2), copy)])
                expected = together([Layout(shapes, []), image(BAR, moves)])
                self.assertEqual(flatten(Library([BAR, middle, top]), "top"), expected)

    def test_overlapping_copies(self):
        top = Cell("top", [], [], [("bar", (0, 0, 0), 100, 1, 1, 0), ("bar", (0, 0, 0), 5, 5, 0, 0)])
        layout = flatten(Library([BAR, top]), "top")
        self.assertEqual(layout.region("metal"), ((0, 0, 102, 1),))
        self.assertEqual(len(layout.labels), 200)

    def test_unknown_cell(self):
        with self.assertRaises(UnknownCell) as caught:
            flatten(Library([BAR]), "foo")
        self.assertEqual(caught.exception.name, "foo")
        with self.assertRaises(UnknownCell):
            flatten(Library([BAR]), "foo", limit=0)


class Limits(unittest.TestCase):
    def library(self, shapes, labels):
        inner = Cell("a", [("metal", (0, 0, 1, 1))] * shapes, [("x", "metal", 0, 0)] * labels, [])
        return Library([inner, Cell("top", [], [], [("a", (0, 0, 0), 10, 3, 2, 2)])])

    def refused(self, library, name, limit):
        with self.assertRaises(TooLarge) as caught:
            flatten(library, name, limit=limit)
        self.assertEqual(caught.exception.limit, limit)

    def test_shape_count(self):
        library = self.library(2, 0)
        self.assertEqual(len(flatten(library, "top", limit=60).shapes()), 30)
        self.refused(library, "top", 59)

    def test_label_count(self):
        library = self.library(0, 2)
        self.assertEqual(len(flatten(library, "top", limit=60).labels), 30)
        self.refused(library, "top", 59)

    def test_the_counts_are_not_added(self):
        self.assertEqual(len(flatten(self.library(2, 2), "top", limit=60).labels), 30)
        self.refused(self.library(1, 2), "top", 59)
        self.refused(self.library(2, 1), "top", 59)

    def test_standard_limit(self):
        inner = Cell("a", [("metal", (0, 0, 1, 1))], [], [])
        full = Cell("full", [], [], [("a", (0, 0, 0), 100, 100, 2, 2)])
        more = Cell("more", [("top", (0, 0, 1, 1))], [], [("full", (0, 0, 0), 1, 1, 0, 0)])
        library = Library([inner, full, more])
        self.assertEqual(len(flatten(library, "full").region("metal")), 10000)
        with self.assertRaises(TooLarge) as caught:
            flatten(library, "more")
        self.assertEqual(caught.exception.limit, 10000)

    def test_limit_of_nothing(self):
        self.assertEqual(flatten(Library([Cell("a", [], [], [])]), "a", limit=0), Layout([], []))
        self.refused(Library([BAR]), "bar", 0)

    def test_limit_is_passed_by_keyword(self):
        with self.assertRaises(TypeError):
            flatten(Library([BAR]), "bar", 5)

    def test_huge_counts_are_refused_at_once(self):
        cells = [BAR]
        for at in range(59):
            cells.append(Cell(f"c{at}", [], [], [(cells[-1].name, (0, 0, 0), 100, 100, 1, 1)]))
        self.refused(Library(cells), "c58", 10 ** 30)

    def test_many_copies_of_nothing(self):
        for shapes, labels in [([], []), ([("metal", (0, 0, 1, 1))], []), ([], [("x", "metal", 0, 0)])]:
            cells = [Cell("a", [], [], [])]
            for at in range(58):
                placement = (cells[-1].name, (0, 0, 0), 100, 100, 1, 1)
                cells.append(Cell(f"c{at}", [], [], [placement, placement, placement]))
            top = Cell("top", shapes, labels, [("c57", (0, 0, 0), 100, 100, 1, 1)])
            self.assertEqual(flatten(Library(cells + [top]), "top"), Layout(shapes, labels))


class WhatFlatteningKeeps(unittest.TestCase):
    def test_placing_a_cell_in_another_one(self):
        middle = Cell("mid", [("well", (-5, 0, 1, 1))], [("m", "top", 3, 3)], [("bar", (6, 1, 2), 3, 1, 2, 2)])
        for turn in range(TURN_COUNT):
            move = (turn, -4, HUGE)
            library = Library([BAR, middle, Cell("top", [], [], [("mid", move, 1, 1, 8, -8)])])
            self.assertEqual(flatten(library, "top"), flatten(library, "mid").moved(move))

    def test_replacing_a_placement(self):
        middle = Cell("mid", [("well", (-5, 0, 1, 1))], [], [("bar", (6, 1, 2), 3, 1, 2, 2)])
        for turn in range(TURN_COUNT):
            placement = ("mid", (turn, 7, 7), 2, 3, 40, -50)
            kept = ("bar", (2, 0, 0), 1, 1, 0, 0)
            library = Library([BAR, middle, Cell("top", [], [], [placement, kept])])
            inner = flatten(library, "mid")
            images = [inner.moved(move) for move in copies(placement)]
            shapes = [shape for layout in images for shape in layout.shapes()]
            labels = [label for layout in images for label in layout.labels]
            other = Library([BAR, middle, Cell("top", shapes, labels, [kept])])
            self.assertEqual(flatten(other, "top"), flatten(library, "top"))

    def test_cut_ordered_and_nested_otherwise(self):
        source = random.Random(8)
        for boxes in samples(20):
            flat = Cell("flat", [("poly", box) for box in boxes], list(BAR.labels), [])
            parts = [Cell(f"p{at}", [("poly", box)], [], []) for at, box in enumerate(cut_up(source, boxes))]
            placements = [(part.name, (0, 0, 0), 1, 1, 0, 0) for part in parts]
            source.shuffle(placements)
            nested = Cell("nested", [], list(BAR.labels) * 2, placements)
            library = Library([flat] + parts + [nested])
            self.assertEqual(flatten(library, "nested"), flatten(library, "flat"))

    def test_the_library_stays(self):
        library = Library([BAR, Cell("top", [], [], [("bar", (1, 0, 0), 2, 2, 9, 9)])])
        first = flatten(library, "top")
        self.assertEqual(flatten(library, "top"), first)
        self.assertEqual(library.cell("top").placements, (("bar", (1, 0, 0), 2, 2, 9, 9),))
        self.assertEqual(len(BAR.shapes), 2)


if __name__ == "__main__":
    unittest.main()
