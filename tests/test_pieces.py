"""Points 11 and 12: pieces and the lengths of outlines."""

import unittest

from reticle.pieces import are_joined, first_square, outline_length, piece_at, pieces
from reticle.regions import is_region, region_of, rest, union
from tests.helpers import HUGE, joined_squares, neighbours, piece_squares, region_of_squares, samples, squares_of

SAMPLES = samples(150, most=9, size=6, longest=4)

RING = rest(((0, 0, 5, 5),), ((1, 1, 4, 4),))

RINGS_IN_RINGS = union(union(RING, ((2, 2, 3, 3),)), rest(((-3, -3, 8, 8),), ((-2, -2, 7, 7),)))


class Pieces(unittest.TestCase):
    def test_example(self):
        self.assertEqual(pieces(((0, 0, 1, 1), (1, 1, 2, 2))), [((0, 0, 1, 1),), ((1, 1, 2, 2),)])

    def test_empty(self):
        self.assertEqual(pieces(()), [])

    def test_against_the_squares(self):
        for boxes in SAMPLES:
            expected = [region_of_squares(part) for part in piece_squares(squares_of(boxes))]
            self.assertEqual(pieces(region_of(boxes)), expected)

    def test_order_of_first_squares(self):
        # The second box begins further to the left, but higher up.
        region = region_of([(5, 0, 6, 9), (0, 1, 1, 2), (9, 0, 10, 1)])
        self.assertEqual(pieces(region), [((5, 0, 6, 9),), ((9, 0, 10, 1),), ((0, 1, 1, 2),)])

    def test_a_fork_is_one_piece(self):
        fork = region_of([(0, 1, 1, 4), (4, 0, 5, 4), (0, 3, 5, 4)])
        self.assertEqual(pieces(fork), [fork])

    def test_corners_do_not_join(self):
        for second in [(1, 1, 2, 2), (-1, 1, 0, 2)]:
            self.assertEqual(len(pieces(region_of([(0, 0, 1, 1), second]))), 2)

    def test_hole(self):
        self.assertEqual(pieces(RING), [RING])

    def test_rings_in_rings(self):
        outer = rest(((-3, -3, 8, 8),), ((-2, -2, 7, 7),))
        self.assertEqual(pieces(RINGS_IN_RINGS), [outer, RING, ((2, 2, 3, 3),)])

    def test_rows_of_a_piece_are_its_own(self):
        region = region_of([(0, 0, 1, 4), (3, 1, 4, 2)])
        self.assertEqual(pieces(region), [((0, 0, 1, 4),), ((3, 1, 4, 2),)])
        for part in [part for boxes in SAMPLES for part in pieces(region_of(boxes))]:
            self.assertIs(is_region(part), True)

    def test_new_list_each_time(self):
        first = pieces(RING)
        first.append("x")
        self.assertEqual(pieces(RING), [RING])

    def test_huge(self):
        region = region_of([(HUGE, -HUGE, 2 * HUGE, HUGE), (0, 0, HUGE, 1), (-HUGE, 1, 0, 2)])
        self.assertEqual(len(pieces(region)), 2)

    def test_a_long_chain(self):
        steps = [(at, at, at + 2, at + 1) for at in range(3000)]
        self.assertEqual(len(pieces(region_of(steps))), 1)


class PieceAt(unittest.TestCase):
    def test_every_square_in_and_around(self):
        for boxes in SAMPLES[:25]:
            parts = piece_squares(squares_of(boxes))
            region = region_of(boxes)
            for x in range(-7, 11):
                for y in range(-7, 11):
                    expected = [index for index, part in enumerate(parts) if (x, y) in part]
                    self.assertEqual(piece_at(region, x, y), expected[0] if expected else None)

    def test_rings_in_rings(self):
        places = {(-3, -3): 0, (7, 7): 0, (0, 0): 1, (4, 2): 1, (2, 2): 2, (1, 1): None, (-1, 0): None, (8, 8): None}
        for (x, y), expected in places.items():
            self.assertEqual(piece_at(RINGS_IN_RINGS, x, y), expected)

    def test_empty(self):
        self.assertIsNone(piece_at((), 0, 0))


class FirstSquare(unittest.TestCase):
    def test_smallest_y_and_then_smallest_x(self):
        self.assertEqual(first_square(((3, -5, 4, -4), (7, -5, 8, -4), (-9, 0, 9, 1))), (3, -5))
        for boxes in SAMPLES:
            if boxes:
                y, x = min((y, x) for x, y in squares_of(boxes))
                self.assertEqual(first_square(region_of(boxes)), (x, y))
                self.assertIsInstance(first_square(region_of(boxes)), tuple)


class AreJoined(unittest.TestCase):
    def test_against_the_squares(self):
        for boxes in SAMPLES[:6]:
            squares, region = squares_of(boxes), region_of(boxes)
            places = [(x, y) for x in range(-6, 10, 2) for y in range(-6, 10, 2)]
            for first in places:
                joined = joined_squares(squares, first) if first in squares else set()
                for second in places:
                    self.assertIs(are_joined(region, first, second), second in joined)

    def test_by_hand(self):
        self.assertIs(are_joined(RING, (0, 0), (4, 4)), True)
        self.assertIs(are_joined(RING, (0, 0), (0, 0)), True)
        self.assertIs(are_joined(((0, 0, 1, 1), (1, 1, 2, 2)), (0, 0), (1, 1)), False)

    def test_outside(self):
        self.assertIs(are_joined(RING, (2, 2), (0, 0)), False)
        self.assertIs(are_joined(RING, (0, 0), (2, 2)), False)
        self.assertIs(are_joined(RING, (2, 2), (2, 2)), False)
        self.assertIs(are_joined((), (0, 0), (0, 0)), False)


class OutlineLength(unittest.TestCase):
    def test_example(self):
        self.assertEqual(outline_length(((0, 0, 2, 1), (0, 1, 1, 2))), 8)

    def test_box(self):
        self.assertEqual(outline_length(((0, 0, 1, 1),)), 4)
        self.assertEqual(outline_length(((-2, 3, 5, 6),)), 20)

    def test_hole(self):
        self.assertEqual(outline_length(RING), 20 + 12)

    def test_corner(self):
        self.assertEqual(outline_length(((0, 0, 1, 1), (1, 1, 2, 2))), 8)

    def test_empty(self):
        self.assertEqual(outline_length(()), 0)

    def test_against_the_neighbours(self):
        for boxes in SAMPLES:
            squares = squares_of(boxes)
            sides = sum(1 for x, y in squares for square in neighbours(x, y) if square not in squares)
            self.assertEqual(outline_length(region_of(boxes)), sides)

    def test_huge(self):
        self.assertEqual(outline_length(((0, 0, HUGE, 2), (0, 2, 1, HUGE))), 4 * HUGE)


if __name__ == "__main__":
    unittest.main()
