"""Points 3 and 4: boxes."""

import unittest

from reticle.boxes import box_area, has_square, hull, is_box, overlap, spread_box, touch
from tests.helpers import HUGE, neighbours, samples, squares_of

BOX = (-3, 2, 4, 5)

FAR = (HUGE, -HUGE - 7, HUGE + 5, -HUGE)


class IsBox(unittest.TestCase):
    def test_sides_in_order(self):
        for box in [(0, 0, 1, 1), BOX, FAR, (-9, -9, -8, -8), (-HUGE, -HUGE, HUGE, HUGE)]:
            self.assertIs(is_box(box), True, box)

    def test_equal_sides(self):
        for box in [(0, 0, 0, 1), (0, 0, 1, 0), (5, 5, 5, 5), (HUGE, 0, HUGE, 1)]:
            self.assertIs(is_box(box), False, box)

    def test_reversed_sides(self):
        for box in [(1, 0, 0, 1), (0, 1, 1, 0), (1, 1, 0, 0), (0, 0, -1, 5), (HUGE, 0, -HUGE, 1)]:
            self.assertIs(is_box(box), False, box)


class HasSquare(unittest.TestCase):
    def test_inside_along_each_side(self):
        for x, y in [(-3, 3), (3, 3), (0, 2), (0, 4), (-3, 2), (3, 4)]:
            self.assertIs(has_square(BOX, x, y), True, (x, y))

    def test_outside_along_each_side(self):
        for x, y in [(-4, 3), (4, 3), (0, 1), (0, 5), (-4, 1), (4, 5)]:
            self.assertIs(has_square(BOX, x, y), False, (x, y))

    def test_against_the_set_of_squares(self):
        found = {(x, y) for x in range(-6, 8) for y in range(-1, 9) if has_square(BOX, x, y)}
        self.assertEqual(found, squares_of([BOX]))

    def test_huge_coordinates(self):
        self.assertIs(has_square(FAR, HUGE, -HUGE - 1), True)
        self.assertIs(has_square(FAR, HUGE - 1, -HUGE - 1), False)
        self.assertIs(has_square(FAR, HUGE + 5, -HUGE - 1), False)
        self.assertIs(has_square(FAR, HUGE, -HUGE), False)


class BoxArea(unittest.TestCase):
    def test_number_of_squares(self):
        self.assertEqual(box_area((0, 0, 1, 1)), 1)
        self.assertEqual(box_area(BOX), len(squares_of([BOX])))

    def test_huge_area(self):
        self.assertEqual(box_area(FAR), 35)
        self.assertEqual(box_area((-HUGE, 0, HUGE, HUGE)), 2 * HUGE * HUGE)


class Overlap(unittest.TestCase):
    def both(self, first, second, expected):
        self.assertEqual(overlap(first, second), expected)
        self.assertEqual(overlap(second, first), expected)

    def test_example(self):
        self.both((0, 0, 4, 4), (2, 3, 9, 9), (2, 3, 4, 4))

    def test_apart(self):
        self.both((0, 0, 1, 1), (2, 0, 3, 1), None)
        self.both((0, 0, 1, 1), (0, -9, 1, -5), None)

    def test_common_side(self):
        self.both((0, 0, 2, 2), (2, 0, 4, 2), None)
        self.both((0, 0, 2, 2), (0, 2, 2, 4), None)

    def test_common_corner(self):
        self.both((0, 0, 2, 2), (2, 2, 4, 4), None)
        self.both((0, 0, 2, 2), (-2, 2, 0, 4), None)

    def test_one_inside_of_the_other(self):
        self.both((0, 0, 9, 9), (3, 4, 5, 6), (3, 4, 5, 6))

    def test_itself(self):
        self.both(BOX, BOX, BOX)

    def test_huge(self):
        self.both(FAR, (-HUGE, -HUGE - 1, HUGE + 1, HUGE), (HUGE, -HUGE - 1, HUGE + 1, -HUGE))

    def test_against_the_sets_of_squares(self):
        for boxes in samples(100, most=4, size=3):
            for first in boxes:
                for second in boxes:
                    found = overlap(first, second)
                    shared = squares_of([first]) & squares_of([second])
                    self.assertEqual(squares_of([found] if found is not None else []), shared)


class Touch(unittest.TestCase):
    def both(self, first, second, expected):
        self.assertIs(touch(first, second), expected)
        self.assertIs(touch(second, first), expected)

    def test_common_part_of_a_side(self):
        self.both((0, 0, 2, 2), (2, 0, 4, 2), True)
        self.both((0, 0, 2, 2), (2, 1, 4, 9), True)
        self.both((0, 0, 2, 2), (-5, 2, 1, 3), True)
        self.both((HUGE, 0, HUGE + 2, 2), (HUGE + 1, 2, HUGE + 9, 3), True)

    def test_common_corner(self):
        self.both((0, 0, 2, 2), (2, 2, 4, 4), False)
        self.both((0, 0, 2, 2), (2, -3, 4, 0), False)

    def test_overlapping(self):
        self.both((0, 0, 2, 2), (1, 1, 4, 4), False)
        self.both((0, 0, 2, 2), (0, 0, 2, 2), False)
        self.both((0, 0, 9, 9), (3, 3, 4, 4), False)

    def test_apart(self):
        self.both((0, 0, 2, 2), (3, 0, 4, 2), False)
        self.both((0, 0, 2, 2), (0, 3, 2, 4), False)
        self.both((0, 0, 2, 2), (2, 3, 4, 4), False)

    def test_against_neighbours(self):
        for boxes in samples(100, most=4, size=3):
            for first in boxes:
                for second in boxes:
                    inner, other = squares_of([first]), squares_of([second])
                    meet = any(square in other for x, y in inner for square in neighbours(x, y))
                    self.assertIs(touch(first, second), meet and not inner & other)


class Hull(unittest.TestCase):
    def test_one_box(self):
        self.assertEqual(hull([BOX]), BOX)

    def test_several_boxes(self):
        self.assertEqual(hull([(0, 0, 1, 1), (5, -4, 6, 0), (2, 2, 3, 9)]), (0, -4, 6, 9))
        self.assertEqual(hull([(0, 0, 9, 9), (3, 3, 4, 4)]), (0, 0, 9, 9))
        self.assertEqual(hull([(0, 0, 1, 1), FAR]), (0, -HUGE - 7, HUGE + 5, 1))

    def test_the_list_stays(self):
        boxes = [(3, 3, 4, 4), (0, 0, 1, 1)]
        hull(boxes)
        self.assertEqual(boxes, [(3, 3, 4, 4), (0, 0, 1, 1)])


class SpreadBox(unittest.TestCase):
    def test_all_four_amounts(self):
        self.assertEqual(spread_box((0, 0, 1, 1), left=1, down=2, right=3, up=4), (-1, -2, 4, 5))
        self.assertEqual(spread_box(BOX, left=HUGE, down=0, right=0, up=HUGE), (-3 - HUGE, 2, 4, 5 + HUGE))

    def test_one_amount(self):
        self.assertEqual(spread_box(BOX, left=2), (-5, 2, 4, 5))
        self.assertEqual(spread_box(BOX, down=2), (-3, 0, 4, 5))
        self.assertEqual(spread_box(BOX, right=2), (-3, 2, 6, 5))
        self.assertEqual(spread_box(BOX, up=2), (-3, 2, 4, 7))

    def test_no_amount(self):
        self.assertEqual(spread_box(BOX), BOX)

    def test_amounts_are_passed_by_keyword(self):
        with self.assertRaises(TypeError):
            spread_box(BOX, 1)


if __name__ == "__main__":
    unittest.main()
