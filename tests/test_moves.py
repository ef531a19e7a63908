"""Points 5 and 6: moves."""

import unittest

from reticle.boxes import box_area, overlap, touch
from reticle.moves import STAY, chain, inverse, is_move, move_box, move_square
from tests.helpers import HUGE, TURN_COUNT, image_of_box, image_of_square, samples

BOX = (1, 2, 4, 9)

TURNS = range(TURN_COUNT)


class IsMove(unittest.TestCase):
    def test_turns(self):
        for turn in TURNS:
            self.assertIs(is_move((turn, 5, -HUGE)), True)

    def test_other_turns(self):
        for turn in (-1, 8, 9, -8, HUGE, -HUGE):
            self.assertIs(is_move((turn, 0, 0)), False)


class Stay(unittest.TestCase):
    def test_value(self):
        self.assertEqual(STAY, (0, 0, 0))

    def test_changes_nothing(self):
        self.assertEqual(move_box(STAY, BOX), BOX)
        self.assertEqual(move_square(STAY, -3, 8), (-3, 8))


class MoveBox(unittest.TestCase):
    def test_example(self):
        self.assertEqual(move_box((1, 10, 0), (0, 0, 3, 1)), (9, 0, 10, 3))

    def test_each_turn_by_hand(self):
        expected = [
            (1, 2, 4, 9), (-9, 1, -2, 4), (-4, -9, -1, -2), (2, -4, 9, -1),
            (-4, 2, -1, 9), (-9, -4, -2, -1), (1, -9, 4, -2), (2, 1, 9, 4),
        ]
        for turn in TURNS:
            self.assertEqual(move_box((turn, 0, 0), BOX), expected[turn], turn)

    def test_against_the_corners(self):
        for turn in TURNS:
            for dx, dy in [(0, 0), (7, -3), (-100, -200), (HUGE, -HUGE), (-HUGE, 1)]:
                for box in [BOX, (-3, -8, -1, 6), (HUGE, -HUGE, HUGE + 3, HUGE)]:
                    image = move_box((turn, dx, dy), box)
                    self.assertIsInstance(image, tuple)
                    self.assertEqual(image, image_of_box((turn, dx, dy), box))

    def test_width_and_height(self):
        for turn in TURNS:
            x0, y0, x1, y1 = move_box((turn, 5, -6), BOX)
            expected = (7, 3) if turn % 2 == 1 else (3, 7)
            self.assertEqual((x1 - x0, y1 - y0), expected, turn)


class MoveSquare(unittest.TestCase):
    def test_is_the_square_of_the_moved_unit_box(self):
        for turn in TURNS:
            for x, y in [(0, 0), (3, -4), (-1, -1), (HUGE, 5)]:
                image = move_square((turn, 2, -9), x, y)
                self.assertIsInstance(image, tuple)
                self.assertEqual(image, move_box((turn, 2, -9), (x, y, x + 1, y + 1))[:2])
                self.assertEqual(image, image_of_square((turn, 2, -9), (x, y)))

    def test_by_hand(self):
        self.assertEqual([move_square((turn, 0, 0), 0, 0) for turn in TURNS],
                         [(0, 0), (-1, 0), (-1, -1), (0, -1), (-1, 0), (-1, -1), (0, -1), (0, 0)])


class Chain(unittest.TestCase):
    def test_example(self):
        self.assertEqual(chain((4, 0, 0), (1, 2, 0)), (5, 2, 0))

    def test_first_and_then_second(self):
        for one in TURNS:
            for two in TURNS:
                first, second = (one, 3, -5), (two, -11, HUGE)
                both = chain(first, second)
                self.assertTrue(is_move(both))
                self.assertIsInstance(both, tuple)
                for box in [BOX, (-2, 0, 3, 1)]:
                    self.assertEqual(move_box(both, box), move_box(second, move_box(first, box)), (one, two))

    def test_with_stay(self):
        for turn in TURNS:
            self.assertEqual(chain((turn, 3, 4), STAY), (turn, 3, 4))
            self.assertEqual(chain(STAY, (turn, 3, 4)), (turn, 3, 4))


class Inverse(unittest.TestCase):
    def test_both_orders(self):
        for turn in TURNS:
            for dx, dy in [(0, 0), (3, -7), (HUGE, -HUGE)]:
                move = (turn, dx, dy)
                back = inverse(move)
                self.assertTrue(is_move(back))
                self.assertEqual(chain(move, back), (0, 0, 0), move)
                self.assertEqual(chain(back, move), (0, 0, 0), move)
                self.assertEqual(move_box(back, move_box(move, BOX)), BOX)

    def test_by_hand(self):
        self.assertEqual(inverse((0, 3, -7)), (0, -3, 7))
        self.assertEqual(inverse((1, 3, -7)), (3, 7, 3))
        self.assertEqual(inverse((4, 3, -7)), (4, 3, 7))


class WhatMovesKeep(unittest.TestCase):
    def test_overlap_touch_and_area(self):
        for boxes in samples(30, most=5, size=3):
            for turn in TURNS:
                move = (turn, 13, -HUGE)
                images = [move_box(move, box) for box in boxes]
                for box, image in zip(boxes, images):
                    self.assertEqual(box_area(box), box_area(image))
                    for other, other_image in zip(boxes, images):
                        shared = overlap(box, other)
                        expected = None if shared is None else move_box(move, shared)
                        self.assertEqual(overlap(image, other_image), expected)
                        self.assertIs(touch(image, other_image), touch(box, other))


if __name__ == "__main__":
    unittest.main()
