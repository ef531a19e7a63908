"""Points 47 to 49: outlines, signed areas, and filling loops."""

import random
import unittest

from reticle.errors import InvalidLoop
from reticle.outlines import filled, is_outer, outlines, signed_area
from reticle.pieces import outline_length
from reticle.regions import area, is_region, region_of, rest, union
from tests.helpers import HUGE, region_of_squares, samples, squares_of

SAMPLES = samples(150, most=9, size=5, longest=4)

RING = rest(((0, 0, 5, 5),), ((1, 1, 4, 4),))

RINGS_IN_RINGS = union(union(RING, ((2, 2, 3, 3),)), rest(((-3, -3, 8, 8),), ((-2, -2, 7, 7),)))

# A chessboard: many squares that touch at corners only.
BOARD = region_of([(x, y, x + 1, y + 1) for x in range(6) for y in range(6) if (x + y) % 2 == 0])

LEFT_OF = {(1, 0): (0, 1), (0, 1): (-1, 0), (-1, 0): (0, -1), (0, -1): (1, 0)}


def unit_sides(squares):
    """The sides as point 47 walks them: a set of pairs of a starting point and a direction."""
    sides = set()
    for x, y in squares:
        around = [((x, y), (1, 0), (x, y - 1)), ((x + 1, y), (0, 1), (x + 1, y)),
                  ((x + 1, y + 1), (-1, 0), (x, y + 1)), ((x, y + 1), (0, -1), (x - 1, y))]
        sides |= {(start, step) for start, step, neighbour in around if neighbour not in squares}
    return sides


def walked(sides, side):
    """The sides of the loop of a side, in the order of the walk."""
    loop = []
    while side not in loop:
        loop.append(side)
        (x, y), step = side
        end = (x + step[0], y + step[1])
        onward = [other for start, other in sides if start == end]
        # Where two walks can go on, this one turns to the left.
        side = (end, onward[0] if len(onward) == 1 else LEFT_OF[step])
    return loop


def plain_outlines(squares):
    """The loops of point 47, side by side."""
    sides, loops = unit_sides(squares), []
    left = set(sides)
    while left:
        loop = walked(sides, min(left))
        left -= set(loop)
        points = [start for at, (start, step) in enumerate(loop) if loop[at - 1][1] != step]
        first = points.index(min(points, key=lambda point: (point[1], point[0])))
        loops.append(tuple(points[first:] + points[:first]))
    return sorted(loops, key=lambda loop: (loop[0][1], loop[0][0], loop))


def inside(loops):
    """The squares inside of loops, by counting the vertical lines to the left of each."""
    lines = [(start, end) for loop in loops for start, end in zip(loop, loop[1:] + loop[:1]) if start[0] == end[0]]
    xs, ys = [x for loop in loops for x, _ in loop], [y for loop in loops for _, y in loop]
    found = set()
    for x in range(min(xs, default=0) - 1, max(xs, default=0) + 1):
        for y in range(min(ys, default=0) - 1, max(ys, default=0) + 1):
            crossed = [start for start, end in lines if start[0] <= x and min(start[1], end[1]) <= y < max(start[1], end[1])]
            if len(crossed) % 2 == 1:
                found.add((x, y))
    return found


def begun_elsewhere(source, loop):
    """A loop with another first point, and perhaps walked the other way."""
    at = source.randrange(len(loop))
    other = loop[at:] + loop[:at]
    return other[::-1] if source.random() < 0.5 else other


def random_loop(source):
    """A loop of any number of random points, which may cross itself."""
    while True:
        count = source.randint(2, 5)
        xs = [source.randint(-4, 4) for _ in range(count)]
        ys = [source.randint(-4, 4) for _ in range(count)]
        if all(xs[at] != xs[at - 1] and ys[at] != ys[at - 1] for at in range(count)):
            points = []
            for at in range(count):
                points.extend([(xs[at - 1], ys[at]), (xs[at], ys[at])])
            return tuple(points)


class Outlines(unittest.TestCase):
    def test_example(self):
        self.assertEqual(outlines(((0, 0, 2, 1), (0, 1, 1, 2))), [((0, 0), (2, 0), (2, 1), (1, 1), (1, 2), (0, 2))])

    def test_box(self):
        self.assertEqual(outlines(((-2, 3, 5, 4),)), [((-2, 3), (5, 3), (5, 4), (-2, 4))])

    def test_empty(self):
        self.assertEqual(outlines(()), [])

    def test_against_each_side(self):
        for boxes in SAMPLES:
            loops = outlines(region_of(boxes))
            self.assertEqual(loops, plain_outlines(squares_of(boxes)))
            self.assertIsInstance(loops, list)
            self.assertTrue(all(isinstance(loop, tuple) and isinstance(loop[0], tuple) for loop in loops))

    def test_single_squares_at_random(self):
        source = random.Random(2)
        for _ in range(150):
            squares = {(x, y) for x in range(5) for y in range(5) if source.random() < 0.5}
            self.assertEqual(outlines(region_of_squares(squares)), plain_outlines(squares))

    def test_each_side_is_in_exactly_one_loop(self):
        for boxes in SAMPLES:
            sides = []
            for loop in outlines(region_of(boxes)):
                for (x0, y0), (x1, y1) in zip(loop, loop[1:] + loop[:1]):
                    length = abs(x1 - x0) + abs(y1 - y0)
                    step = ((x1 - x0) // length, (y1 - y0) // length)
                    sides.extend(((x0 + k * step[0], y0 + k * step[1]), step) for k in range(length))
            self.assertEqual(sorted(sides), sorted(unit_sides(squares_of(boxes))))
            self.assertEqual(len(sides), outline_length(region_of(boxes)))

    def test_hole(self):
        self.assertEqual(outlines(RING), [((0, 0), (5, 0), (5, 5), (0, 5)), ((1, 1), (1, 4), (4, 4), (4, 1))])

    def test_rings_in_rings(self):
        firsts = [loop[0] for loop in outlines(RINGS_IN_RINGS)]
        self.assertEqual(firsts, [(-3, -3), (-2, -2), (0, 0), (1, 1), (2, 2)])

    def test_corners(self):
        self.assertEqual(outlines(((0, 0, 1, 1), (1, 1, 2, 2))),
                         [((0, 0), (1, 0), (1, 1), (0, 1)), ((1, 1), (2, 1), (2, 2), (1, 2))])
        self.assertEqual(outlines(((1, 0, 2, 1), (0, 1, 1, 2))),
                         [((1, 0), (2, 0), (2, 1), (1, 1)), ((0, 1), (1, 1), (1, 2), (0, 2))])
        self.assertEqual(outlines(BOARD), plain_outlines(squares_of(BOARD)))
        self.assertEqual(len(outlines(BOARD)), 18)

    def test_a_loop_that_passes_a_corner_twice(self):
        # Both squares at the corner (2, 2) belong to one piece, and the loop around it passes there twice.
        region = region_of([(0, 0, 2, 2), (2, 2, 4, 4), (0, 0, 5, 1), (4, 0, 5, 4)])
        loops = outlines(region)
        self.assertEqual(loops, plain_outlines(squares_of(region)))
        self.assertEqual(sum(loop.count((2, 2)) for loop in loops), 2)

    def test_holes_that_touch_at_a_corner(self):
        region = rest(((0, 0, 6, 6),), region_of([(1, 1, 3, 3), (3, 3, 5, 5)]))
        loops = outlines(region)
        self.assertEqual(len(loops), 2)
        self.assertEqual(loops[1], ((1, 1), (1, 3), (3, 3), (3, 5), (5, 5), (5, 3), (3, 3), (3, 1)))

    def test_order_of_the_loops(self):
        region = region_of([(9, 0, 10, 1), (-5, 0, -4, 9), (0, 4, 1, 5), (-9, 4, -8, 5)])
        self.assertEqual([loop[0] for loop in outlines(region)], [(-5, 0), (9, 0), (-9, 4), (0, 4)])

    def test_new_lists(self):
        outlines(RING).clear()
        self.assertEqual(len(outlines(RING)), 2)

    def test_huge(self):
        region = region_of([(-HUGE, -HUGE, HUGE, 1), (0, 0, 2 * HUGE, HUGE)])
        self.assertEqual(outlines(region), [((-HUGE, -HUGE), (HUGE, -HUGE), (HUGE, 0), (2 * HUGE, 0), (2 * HUGE, HUGE),
                                             (0, HUGE), (0, 1), (-HUGE, 1))])

    def test_many_boxes(self):
        comb = region_of([(0, 0, 8000, 1)] + [(2 * at, 0, 2 * at + 1, 5 + at % 3) for at in range(4000)])
        loops = outlines(region_of([(2 * at, at, 2 * at + 1, at + 9) for at in range(4000)]))
        self.assertEqual(len(loops), 4000)
        self.assertEqual([len(outlines(comb)), len(outlines(comb)[0])], [1, 16002])


class SignedArea(unittest.TestCase):
    def test_example(self):
        self.assertEqual(signed_area(((0, 0), (0, 2), (3, 2), (3, 0))), -6)

    def test_both_ways(self):
        loop = ((0, 0), (2, 0), (2, 1), (1, 1), (1, 2), (0, 2))
        for at in range(6):
            turned = loop[at:] + loop[:at]
            self.assertEqual([signed_area(turned), signed_area(turned[::-1])], [3, -3])
            self.assertIs(is_outer(turned), True)
            self.assertIs(is_outer(turned[::-1]), False)

    def test_far_from_the_origin(self):
        loop = ((HUGE, -HUGE), (HUGE + 4, -HUGE), (HUGE + 4, 0), (HUGE, 0))
        self.assertEqual([signed_area(loop), signed_area(loop[::-1])], [4 * HUGE, -4 * HUGE])

    def test_that_encloses_nothing(self):
        loop = ((0, 0), (5, 0), (5, 2), (2, 2), (2, -3), (0, -3))
        # The loop crosses itself; its parts are walked both ways.
        self.assertEqual(signed_area(loop), 6 - 6)
        self.assertIs(is_outer(loop), False)

    def test_loops_of_regions(self):
        for boxes in SAMPLES:
            region = region_of(boxes)
            loops = outlines(region)
            self.assertEqual(sum(signed_area(loop) for loop in loops), area(region))
        self.assertEqual([signed_area(loop) for loop in outlines(RING)], [25, -9])
        self.assertEqual([is_outer(loop) for loop in outlines(RINGS_IN_RINGS)], [True, False, True, False, True])


class Filled(unittest.TestCase):
    def test_outlines_and_back(self):
        source = random.Random(3)
        for boxes in SAMPLES:
            region = region_of(boxes)
            loops = outlines(region)
            self.assertEqual(filled(loops), region)
            others = [begun_elsewhere(source, loop) for loop in loops]
            source.shuffle(others)
            copies = list(others)
            self.assertEqual(filled(others), region)
            self.assertEqual(others, copies)
        for region in (BOARD, RING, RINGS_IN_RINGS):
            self.assertEqual(filled(outlines(region)), region)

    def test_no_loops(self):
        self.assertEqual(filled([]), ())

    def test_loops_that_cross_and_cover(self):
        square = ((0, 0), (2, 0), (2, 2), (0, 2))
        other = ((1, 1), (3, 1), (3, 3), (1, 3))
        self.assertEqual(filled([square, other]), region_of_squares(squares_of([(0, 0, 2, 2)]) ^ squares_of([(1, 1, 3, 3)])))
        self.assertEqual(filled([square, square]), ())
        self.assertEqual(filled([square, square[::-1]]), ())
        self.assertEqual(filled([square, square, square]), ((0, 0, 2, 2),))
        self.assertEqual(filled([square, ((2, 0), (2, 2), (4, 2), (4, 0))]), ((0, 0, 4, 2),))

    def test_a_loop_that_covers_itself(self):
        twice = ((0, 0), (2, 0), (2, 2), (0, 2)) * 2
        self.assertEqual(filled([twice]), ())
        there_and_back = ((0, 0), (3, 0), (3, 2), (0, 2), (0, 0), (3, 0), (3, 1), (0, 1))
        self.assertEqual(filled([there_and_back]), ((0, 1, 3, 2),))

    def test_random_loops_against_counting(self):
        source = random.Random(4)
        for _ in range(150):
            loops = [random_loop(source) for _ in range(source.randint(1, 3))]
            found = filled(loops)
            self.assertEqual(found, region_of_squares(inside(loops)))
            self.assertIs(is_region(found), True)

    def test_huge(self):
        loop = ((-HUGE, -HUGE), (HUGE, -HUGE), (HUGE, HUGE), (-HUGE, HUGE))
        self.assertEqual(filled([loop]), ((-HUGE, -HUGE, HUGE, HUGE),))


class WrongLoops(unittest.TestCase):
    right = ((0, 0), (2, 0), (2, 2), (0, 2))

    def refused(self, loop):
        for loops, index in [([loop], 0), ([self.right, self.right, loop, self.right, loop], 2)]:
            copies = list(loops)
            with self.assertRaises(InvalidLoop) as caught:
                filled(loops)
            self.assertIs(type(caught.exception), InvalidLoop)
            self.assertEqual((caught.exception.index, loops), (index, copies))

    def test_fewer_than_four_points(self):
        for loop in [(), ((0, 0),), ((0, 0), (0, 1)), ((0, 0), (1, 0), (1, 1)), ((0, 0), (0, 0), (0, 0))]:
            self.refused(loop)

    def test_a_point_twice_in_turn(self):
        for at in range(4):
            self.refused(self.right[:at + 1] + self.right[at:])
        self.refused(self.right + self.right[:1])
        self.refused(((0, 0),) * 4)
        self.refused(((0, 0), (2, 0), (2, 0), (0, 0)))
        self.refused(((0, 0), (2, 0), (2, 0), (2, 2), (0, 2), (0, 2)))

    def test_a_slanted_line(self):
        self.refused(((0, 0), (2, 1), (2, 2), (0, 2)))
        self.refused(((0, 0), (2, 0), (2, 2), (1, 1)))
        self.refused(((0, 0), (2, 0), (2, 2), (0, 2), (-1, 3), (-1, 1)))
        self.refused(((0, 0), (1, 1), (2, 0), (3, 1)))

    def test_two_lines_of_one_direction_in_turn(self):
        for at in range(4):
            (x0, y0), (x1, y1) = self.right[at], self.right[(at + 1) % 4]
            middle = ((x0 + x1) // 2, (y0 + y1) // 2)
            self.refused(self.right[:at + 1] + (middle,) + self.right[at + 1:])
        self.refused(((0, 0), (1, 0), (2, 0), (2, 2), (1, 2), (0, 2)))
        self.refused(((0, 0), (5, 0), (2, 0), (2, 2), (0, 2), (0, 1)))
        self.refused(((0, 0), (1, 0), (0, 0), (1, 0)))

    def test_an_odd_number_of_points(self):
        self.refused(((0, 0), (2, 0), (2, 2), (0, 2), (0, 1)))
        self.refused(((0, 0), (2, 0), (2, 2), (1, 2), (1, 1), (0, 1), (0, 3)))


if __name__ == "__main__":
    unittest.main()
