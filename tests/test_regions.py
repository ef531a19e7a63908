"""Points 7 and 8: regions; points 5 to 7 together: moved regions."""

import random
import unittest

from reticle.moves import chain, inverse
from reticle.regions import (
    area, covers, is_region, meeting, move_region, odd_part, region_of, rest, union,
)
from tests.helpers import (
    HUGE, TURN_COUNT, cut_up, image_of_square, region_of_squares, samples, squares_of,
)

PAIRS = list(zip(samples(120, seed=1), samples(120, seed=2)))


def far_away(boxes):
    """The boxes with all their coordinates stretched and shifted far away."""
    return [tuple(HUGE + side * (HUGE // 100) for side in box) for box in boxes]


class RegionOf(unittest.TestCase):
    def test_example(self):
        self.assertEqual(region_of([(0, 0, 2, 2), (1, 1, 3, 3)]), ((0, 0, 2, 1), (0, 1, 3, 2), (1, 2, 3, 3)))

    def test_no_boxes(self):
        self.assertEqual(region_of([]), ())
        self.assertEqual(region_of(()), ())

    def test_one_box(self):
        self.assertEqual(region_of([(-2, -3, 4, 5)]), ((-2, -3, 4, 5),))

    def test_list_and_tuple(self):
        for boxes in samples(40):
            self.assertEqual(region_of(boxes), region_of(tuple(boxes)))
            self.assertIsInstance(region_of(boxes), tuple)

    def test_doubled_boxes(self):
        self.assertEqual(region_of([(0, 0, 2, 2)] * 3), ((0, 0, 2, 2),))

    def test_joins_sideways_and_upwards(self):
        self.assertEqual(region_of([(0, 0, 1, 1), (1, 0, 2, 1)]), ((0, 0, 2, 1),))
        self.assertEqual(region_of([(0, 1, 1, 2), (0, 0, 1, 1)]), ((0, 0, 1, 2),))

    def test_rows_are_cut_where_any_run_changes(self):
        boxes = [(0, 0, 1, 4), (3, 1, 4, 2)]
        expected = ((0, 0, 1, 1), (0, 1, 1, 2), (3, 1, 4, 2), (0, 2, 1, 4))
        self.assertEqual(region_of(boxes), expected)

    def test_against_the_squares(self):
        for boxes in samples(300, most=12):
            self.assertEqual(region_of(boxes), region_of_squares(squares_of(boxes)))

    def test_same_squares_cut_and_ordered_otherwise(self):
        source = random.Random(5)
        for boxes in samples(100):
            self.assertEqual(region_of(cut_up(source, boxes)), region_of(boxes))
            units = [(x, y, x + 1, y + 1) for x, y in squares_of(boxes)]
            self.assertEqual(region_of(units), region_of(boxes))

    def test_argument_stays(self):
        boxes = [(3, 3, 5, 5), (0, 0, 9, 1), (0, 0, 9, 1)]
        region_of(boxes)
        self.assertEqual(boxes, [(3, 3, 5, 5), (0, 0, 9, 1), (0, 0, 9, 1)])

    def test_huge_coordinates(self):
        for boxes in samples(50):
            self.assertEqual(region_of(far_away(boxes)), tuple(far_away(region_of(boxes))))

    def test_many_boxes(self):
        grid = [(3 * x, 3 * y, 3 * x + 2, 3 * y + 2) for x in range(60) for y in range(60)]
        self.assertEqual(len(region_of(grid)), 3600)
        stairs = [(at * HUGE, at, (at + 2000) * HUGE, at + 2000) for at in range(2000)]
        self.assertEqual(len(region_of(stairs)), 3999)


class IsRegion(unittest.TestCase):
    def test_regions(self):
        self.assertIs(is_region(()), True)
        self.assertIs(is_region(((0, 0, 1, 1),)), True)
        self.assertIs(is_region(((0, 0, 1, 1), (1, 1, 2, 2))), True)
        self.assertIs(is_region(((0, 0, 1, 1), (2, 0, 3, 1), (0, 5, 1, 6))), True)
        for boxes in samples(60):
            self.assertIs(is_region(region_of(boxes)), True)

    def test_out_of_order(self):
        self.assertIs(is_region(((2, 0, 3, 1), (0, 0, 1, 1))), False)
        self.assertIs(is_region(((0, 5, 1, 6), (0, 0, 1, 1))), False)

    def test_boxes_that_could_be_joined(self):
        self.assertIs(is_region(((0, 0, 1, 1), (1, 0, 2, 1))), False)
        self.assertIs(is_region(((0, 0, 1, 1), (0, 1, 1, 2))), False)
        self.assertIs(is_region(((0, 0, 1, 1), (5, 0, 6, 1), (0, 1, 1, 2), (5, 1, 6, 2))), False)

    def test_overlapping_and_doubled(self):
        self.assertIs(is_region(((0, 0, 2, 2), (1, 1, 3, 3))), False)
        self.assertIs(is_region(((0, 0, 2, 2), (1, 0, 3, 2))), False)
        self.assertIs(is_region(((0, 0, 2, 2), (0, 0, 2, 2))), False)

    def test_no_box(self):
        self.assertIs(is_region(((0, 0, 0, 1),)), False)
        self.assertIs(is_region(((0, 1, 1, 0),)), False)
        self.assertIs(is_region(((0, 0, 1, 1), (5, 5, 4, 6))), False)

    def test_rows_of_different_heights(self):
        self.assertIs(is_region(((0, 0, 1, 3), (2, 0, 3, 2))), False)
        self.assertIs(is_region(((0, 0, 1, 3), (2, 1, 3, 2))), False)

    def test_needlessly_cut_row(self):
        self.assertIs(is_region(((0, 0, 4, 1), (0, 1, 4, 3))), False)

    def test_only_the_one_writing_of_the_squares(self):
        for boxes in samples(100, most=4):
            self.assertIs(is_region(tuple(boxes)), tuple(boxes) == region_of_squares(squares_of(boxes)))


class CoversAndArea(unittest.TestCase):
    def test_against_the_squares(self):
        for boxes in samples(60):
            squares = squares_of(boxes)
            region = region_of(boxes)
            self.assertEqual(area(region), len(squares))
            for x in range(-8, 12):
                for y in range(-8, 12):
                    self.assertIs(covers(region, x, y), (x, y) in squares)

    def test_empty(self):
        self.assertIs(covers((), 0, 0), False)
        self.assertEqual(area(()), 0)

    def test_huge(self):
        region = region_of([(0, 0, HUGE, HUGE), (HUGE, HUGE, HUGE + 1, HUGE + 1)])
        self.assertEqual(area(region), HUGE * HUGE + 1)
        self.assertIs(covers(region, HUGE - 1, HUGE - 1), True)
        self.assertIs(covers(region, HUGE, HUGE - 1), False)


class SetOperations(unittest.TestCase):
    def test_against_the_squares(self):
        for one, two in PAIRS:
            first, second = region_of(one), region_of(two)
            inner, other = squares_of(one), squares_of(two)
            self.assertEqual(union(first, second), region_of_squares(inner | other))
            self.assertEqual(meeting(first, second), region_of_squares(inner & other))
            self.assertEqual(rest(first, second), region_of_squares(inner - other))
            self.assertEqual(odd_part(first, second), region_of_squares(inner ^ other))

    def test_with_the_empty_region_and_itself(self):
        region = ((0, 0, 2, 1), (0, 1, 1, 2))
        self.assertEqual([union(region, ()), union((), region), union(region, region)], [region] * 3)
        self.assertEqual([meeting(region, ()), meeting((), region), meeting(region, region)], [(), (), region])
        self.assertEqual([rest(region, ()), rest((), region), rest(region, region)], [region, (), ()])
        self.assertEqual([odd_part(region, ()), odd_part((), region), odd_part(region, region)], [region, region, ()])
        self.assertEqual([union((), ()), meeting((), ()), rest((), ()), odd_part((), ())], [()] * 4)

    def test_in_both_orders(self):
        for one, two in PAIRS[:40]:
            first, second = region_of(one), region_of(two)
            for operation in (union, meeting, odd_part):
                self.assertEqual(operation(first, second), operation(second, first))

    def test_rows_are_joined_again(self):
        self.assertEqual(union(((0, 0, 1, 1),), ((0, 1, 1, 2),)), ((0, 0, 1, 2),))
        self.assertEqual(rest(((0, 0, 1, 3), (5, 1, 6, 2))[:1], ()), ((0, 0, 1, 3),))
        self.assertEqual(rest(region_of([(0, 0, 1, 3), (5, 1, 6, 2)]), ((5, 0, 6, 3),)), ((0, 0, 1, 3),))

    def test_huge_coordinates(self):
        for one, two in PAIRS[:30]:
            first, second = region_of(one), region_of(two)
            far_first, far_second = region_of(far_away(one)), region_of(far_away(two))
            for operation in (union, meeting, rest, odd_part):
                self.assertEqual(operation(far_first, far_second), tuple(far_away(operation(first, second))))


class MoveRegion(unittest.TestCase):
    def test_moved_squares(self):
        for boxes in samples(25):
            region = region_of(boxes)
            for turn in range(TURN_COUNT):
                move = (turn, 4, -9)
                image = move_region(move, region)
                squares = {image_of_square(move, square) for square in squares_of(boxes)}
                self.assertEqual(image, region_of_squares(squares))
                self.assertIs(is_region(image), True)

    def test_there_and_back(self):
        for boxes in samples(10):
            region = region_of(boxes)
            for turn in range(TURN_COUNT):
                move = (turn, HUGE, -HUGE)
                self.assertEqual(move_region(inverse(move), move_region(move, region)), region)
                twice = move_region(move, move_region((5, 1, 2), region))
                self.assertEqual(twice, move_region(chain((5, 1, 2), move), region))

    def test_empty(self):
        self.assertEqual(move_region((3, 5, 5), ()), ())


if __name__ == "__main__":
    unittest.main()
