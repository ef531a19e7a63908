"""Points 9 and 10: spreading, growing, shrinking, opening and gaps."""

import unittest

from reticle.regions import area, is_region, region_of, rest, union
from reticle.sizing import gaps, grow, opened, shrink, spread
from tests.helpers import HUGE, box_squares, region_of_squares, samples, spread_squares, squares_of

SAMPLES = samples(60, most=6, size=4)


def shrunk_squares(squares, n):
    """The squares all of whose surroundings are in the set."""
    return {(x, y) for x, y in squares if box_squares(x - n, y - n, 2 * n + 1) <= squares}


def opened_squares(squares, n):
    """The squares of all boxes of the size n that lie in the set."""
    found = set()
    for x, y in squares:
        if box_squares(x, y, n) <= squares:
            found |= box_squares(x, y, n)
    return found


def gap_squares(squares, n):
    """The squares in and around a set that lie in no free box of the size n, each looked at by itself."""
    around = spread_squares(squares, n, n, n, n)
    return {
        (x, y) for x, y in around
        if all(box_squares(x - i, y - j, n) & squares for i in range(n) for j in range(n))
    }


class Spread(unittest.TestCase):
    def test_against_the_squares(self):
        amounts = [(1, 2, 3, 4), (4, 0, 1, 0), (0, 0, 0, 3), (2, 2, 2, 2), (0, 5, 0, 0), (0, 0, 1, 0)]
        for boxes in SAMPLES:
            region = region_of(boxes)
            for left, down, right, up in amounts:
                expected = region_of_squares(spread_squares(squares_of(boxes), left, down, right, up))
                self.assertEqual(spread(region, left=left, down=down, right=right, up=up), expected)

    def test_some_left_out(self):
        region = ((0, 0, 1, 1),)
        self.assertEqual(spread(region, left=2), ((-2, 0, 1, 1),))
        self.assertEqual(spread(region, down=2), ((0, -2, 1, 1),))
        self.assertEqual(spread(region, right=2), ((0, 0, 3, 1),))
        self.assertEqual(spread(region, up=2), ((0, 0, 1, 3),))
        self.assertEqual(spread(region, up=1, left=3), ((-3, 0, 1, 2),))

    def test_none(self):
        for boxes in SAMPLES:
            self.assertEqual(spread(region_of(boxes)), region_of(boxes))

    def test_empty(self):
        self.assertEqual(spread((), left=4, up=2), ())

    def test_amounts_are_passed_by_keyword(self):
        with self.assertRaises(TypeError):
            spread(((0, 0, 1, 1),), 1)


class GrowAndShrink(unittest.TestCase):
    def test_against_the_squares(self):
        for boxes in SAMPLES:
            region, squares = region_of(boxes), squares_of(boxes)
            for n in (0, 1, 2, 3):
                self.assertEqual(grow(region, n), region_of_squares(spread_squares(squares, n, n, n, n)))
                self.assertEqual(shrink(region, n), region_of_squares(shrunk_squares(squares, n)))

    def test_by_nothing(self):
        for boxes in SAMPLES:
            region = region_of(boxes)
            self.assertEqual(grow(region, 0), region)
            self.assertEqual(shrink(region, 0), region)

    def test_joining(self):
        region = ((0, 0, 1, 1), (4, 0, 5, 1))
        self.assertEqual(grow(region, 1), ((-1, -1, 2, 2), (3, -1, 6, 2)))
        self.assertEqual(grow(region, 2), ((-2, -2, 7, 3),))

    def test_vanishing(self):
        self.assertEqual(shrink(((0, 0, 5, 5),), 2), ((2, 2, 3, 3),))
        self.assertEqual(shrink(((0, 0, 5, 4),), 2), ())
        self.assertEqual(shrink(((0, 0, 5, 5),), 3), ())
        self.assertEqual(shrink((), 3), ())
        self.assertEqual(shrink((), 0), ())

    def test_parts_that_meet_at_a_corner_shrink_apart(self):
        region = region_of([(0, 0, 3, 3), (3, 3, 6, 6)])
        self.assertEqual(shrink(region, 1), ((1, 1, 2, 2), (4, 4, 5, 5)))

    def test_a_hole_grows_when_shrinking(self):
        ring = rest(((0, 0, 9, 9),), ((4, 4, 5, 5),))
        self.assertEqual(shrink(ring, 1), rest(((1, 1, 8, 8),), ((3, 3, 6, 6),)))

    def test_huge(self):
        region = ((-HUGE, -HUGE, HUGE, HUGE),)
        self.assertEqual(shrink(region, HUGE - 1), ((-1, -1, 1, 1),))
        self.assertEqual(shrink(region, HUGE), ())
        self.assertEqual(grow(((0, 0, 1, 1), (5, 5, 6, 6)), HUGE)[0], (-HUGE, -HUGE, HUGE + 1, -HUGE + 5))


class Opened(unittest.TestCase):
    def test_example(self):
        self.assertEqual(opened(((0, 0, 4, 2), (0, 2, 1, 5)), 2), ((0, 0, 4, 2),))

    def test_against_the_squares(self):
        for boxes in SAMPLES:
            region, squares = region_of(boxes), squares_of(boxes)
            for n in (1, 2, 3, 4):
                found = opened(region, n)
                self.assertEqual(found, region_of_squares(opened_squares(squares, n)))
                self.assertIs(is_region(found), True)

    def test_by_one(self):
        for boxes in SAMPLES:
            self.assertEqual(opened(region_of(boxes), 1), region_of(boxes))

    def test_gives_a_part_and_twice_is_once(self):
        for boxes in SAMPLES:
            region = region_of(boxes)
            for n in (2, 3, 4):
                once = opened(region, n)
                self.assertEqual(rest(once, region), ())
                self.assertEqual(opened(once, n), once)

    def test_vanishing(self):
        self.assertEqual(opened(((0, 0, 4, 3),), 3), ((0, 0, 4, 3),))
        self.assertEqual(opened(((0, 0, 4, 3),), 4), ())
        self.assertEqual(opened((), 1), ())
        self.assertEqual(opened((), 7), ())

    def test_huge(self):
        region = region_of([(0, 0, HUGE, HUGE), (HUGE, 0, 2 * HUGE, HUGE - 1)])
        self.assertEqual(opened(region, HUGE), ((0, 0, HUGE, HUGE),))


class Gaps(unittest.TestCase):
    def test_example(self):
        self.assertEqual(gaps(((0, 0, 1, 1), (2, 0, 3, 1)), 2), ((0, 0, 3, 1),))

    def test_against_all_free_boxes(self):
        for boxes in SAMPLES[:40]:
            region, squares = region_of(boxes), squares_of(boxes)
            for n in (1, 2, 3, 4):
                self.assertEqual(gaps(region, n), region_of_squares(gap_squares(squares, n)))

    def test_exactly_as_wide_and_one_less(self):
        for n in (2, 3, 7):
            near = ((0, 0, 5, 5), (5 + n - 1, 0, 20, 5))
            wide = ((0, 0, 5, 5), (5 + n, 0, 20, 5))
            self.assertEqual(gaps(near, n), ((0, 0, 20, 5),))
            self.assertEqual(gaps(wide, n), wide)

    def test_diagonal_parts(self):
        # A free box passes between parts that have no line of squares in common.
        for second in [(1, 1, 2, 2), (2, 2, 3, 3), (4, 4, 6, 6), (-2, 2, -1, 3)]:
            corner = region_of([(0, 0, 1, 1), second])
            for n in (2, 3, 9):
                self.assertEqual(gaps(corner, n), corner)
        steps = region_of([(0, 0, 3, 3), (2, 4, 5, 7)])
        self.assertEqual(rest(gaps(steps, 2), steps), ((2, 3, 3, 4),))

    def test_contains_the_region(self):
        for boxes in SAMPLES:
            region = region_of(boxes)
            for n in (1, 2, 5):
                self.assertEqual(union(gaps(region, n), region), gaps(region, n))

    def test_by_one(self):
        for boxes in SAMPLES:
            self.assertEqual(gaps(region_of(boxes), 1), region_of(boxes))

    def test_holes(self):
        ring = rest(((0, 0, 9, 9),), ((3, 3, 6, 6),))
        self.assertEqual(gaps(ring, 3), ring)
        self.assertEqual(gaps(ring, 4), ((0, 0, 9, 9),))

    def test_empty(self):
        for n in (1, 2, HUGE):
            self.assertEqual(gaps((), n), ())

    def test_huge(self):
        region = ((0, 0, 1, HUGE), (HUGE, 0, HUGE + 1, HUGE))
        self.assertEqual(gaps(region, HUGE - 1), region)
        self.assertEqual(gaps(region, HUGE), ((0, 0, HUGE + 1, HUGE),))
        self.assertEqual(area(gaps(region, HUGE)), HUGE * (HUGE + 1))


if __name__ == "__main__":
    unittest.main()
