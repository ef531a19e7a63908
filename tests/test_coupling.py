"""Point 75: coupling and facing."""

import random
import unittest

from reticle.coupling import coupling, couplings, facing
from reticle.layouts import LAYERS, Layout
from reticle.wiring import CONDUCTORS, connect
from tests.helpers import HUGE, TURN_COUNT, cut_shapes, random_shapes
from tests.plain import plain_nets


def wired(*shapes):
    """The wiring of shapes."""
    return connect(Layout(list(shapes), []))


def samples(count, layers=LAYERS, seed=1, most=3):
    """Lists of shapes, the same on each call."""
    source = random.Random(seed)
    return [random_shapes(source, layers, most, size=5) for _ in range(count)]


def net_squares(nets, net, layer):
    """The set of the squares of a net on a layer."""
    return {(x, y) for (other, x, y), number in nets.items() if number == net and other == layer}


def plain_coupling(nets, first, second):
    """The squares at which one net is on "metal" and the other one on "top", counted."""
    over = net_squares(nets, first, "metal") & net_squares(nets, second, "top")
    under = net_squares(nets, first, "top") & net_squares(nets, second, "metal")
    return len(over) + len(under)


def plain_facing(nets, first, second, n):
    """The pairs of squares, counted one by one."""
    count = 0
    for layer in CONDUCTORS:
        others = net_squares(nets, second, layer)
        for x, y in net_squares(nets, first, layer):
            count += sum((x + i, y) in others for i in range(-n, n + 1))
            count += sum((x, y + j) in others for j in range(-n, n + 1))
    return count


def pairs_of(count):
    """All pairs of different numbers below a count."""
    return [(first, second) for first in range(count) for second in range(count) if first != second]


class Coupling(unittest.TestCase):
    def test_against_the_squares(self):
        for shapes in samples(40) + samples(40, ["metal", "top", "via"], seed=2, most=5):
            nets, wiring = plain_nets(shapes), wired(*shapes)
            expected = []
            for first, second in pairs_of(len(wiring)):
                count = plain_coupling(nets, first, second)
                self.assertEqual(coupling(wiring, first, second), count)
                if count > 0 and first < second:
                    expected.append((first, second, count))
            self.assertEqual(couplings(wiring), expected)

    def test_both_ways_together(self):
        wiring = wired(("metal", (0, 0, 3, 3)), ("metal", (10, 0, 13, 3)), ("top", (1, 1, 5, 5)), ("top", (4, 4, 12, 5)),
                       ("top", (11, 2, 12, 5)), ("via", (0, 0, 1, 1)), ("metal", (4, 3, 5, 6)), ("via", (4, 3, 5, 4)))
        self.assertEqual(len(wiring), 3)
        self.assertEqual(couplings(wiring), [(0, 2, 4), (1, 2, 1)])
        # One net is on "metal" below the other one at two squares, and above it at three.
        wiring = wired(("metal", (0, 0, 2, 1)), ("top", (0, 0, 2, 1)), ("top", (10, 0, 13, 1)), ("metal", (10, 0, 13, 1)),
                       ("metal", (0, 0, 1, 9)), ("top", (10, 0, 11, 9)), ("via", (10, 8, 11, 9)), ("top", (0, 8, 10, 9)),
                       ("via", (0, 8, 1, 9)), ("metal", (10, 8, 11, 9)))
        self.assertEqual(len(wiring), 3)
        joined = wiring.net_at("metal", 0, 0)
        right, left = wiring.net_at("metal", 10, 0), wiring.net_at("top", 0, 0)
        self.assertEqual(couplings(wiring), [(joined, right, 3), (joined, left, 2)])

    def test_both_directions_between_two_nets(self):
        # Net 0 is on "metal" to the left and on "top" to the right, and net 1 the other way round.
        shapes = [("metal", (0, 0, 5, 1)), ("top", (4, 0, 9, 1)), ("via", (4, 0, 5, 1)),
                  ("top", (1, 0, 3, 4)), ("metal", (2, 3, 8, 4)), ("via", (2, 3, 3, 4)), ("metal", (7, 0, 8, 4))]
        wiring = wired(*shapes)
        self.assertEqual(len(wiring), 2)
        self.assertEqual([coupling(wiring, 0, 1), coupling(wiring, 1, 0)], [3, 3])
        self.assertEqual(couplings(wiring), [(0, 1, 3)])

    def test_a_net_does_not_couple_with_itself(self):
        wiring = wired(("metal", (0, 0, 9, 9)), ("top", (0, 0, 9, 9)), ("via", (3, 3, 4, 4)))
        self.assertEqual((len(wiring), couplings(wiring)), (1, []))

    def test_other_layers_do_not_couple(self):
        self.assertEqual(couplings(wired(("metal", (0, 0, 9, 9)), ("poly", (0, 0, 9, 9)), ("active", (9, 0, 12, 9)))), [])
        self.assertEqual(couplings(wired(("top", (0, 0, 9, 9)), ("poly", (0, 0, 9, 9)))), [])

    def test_neighbours_do_not_couple(self):
        wiring = wired(("metal", (0, 0, 3, 3)), ("top", (3, 0, 6, 3)), ("top", (0, 4, 2, 5)))
        self.assertEqual(couplings(wiring), [])
        self.assertEqual(coupling(wiring, 0, 1), 0)

    def test_nothing(self):
        self.assertEqual(couplings(wired()), [])

    def test_new_lists(self):
        wiring = wired(("metal", (0, 0, 3, 3)), ("top", (2, 2, 6, 3)))
        couplings(wiring).append("x")
        self.assertEqual(couplings(wiring), [(0, 1, 1)])

    def test_crossing_strips(self):
        lines = [("metal", (0, 2 * at, 200, 2 * at + 1)) for at in range(40)]
        columns = [("top", (3 * at, 0, 3 * at + 2, 90)) for at in range(40)]
        self.assertEqual(couplings(wired(*lines, *columns)), [(i, 40 + j, 2) for i in range(40) for j in range(40)])

    def test_huge(self):
        wiring = wired(("metal", (-HUGE, 0, HUGE, HUGE)), ("top", (0, -HUGE, 2 * HUGE, 2 * HUGE)), ("top", (-HUGE, 5, 0, 6)))
        self.assertEqual(couplings(wiring), [(0, 1, HUGE * HUGE + HUGE)])
        self.assertEqual(coupling(wiring, 1, 0), HUGE * HUGE + HUGE)


class Facing(unittest.TestCase):
    def test_against_the_pairs(self):
        for shapes in samples(25, seed=3) + samples(25, ["poly", "metal", "contact"], seed=4, most=4):
            nets, wiring = plain_nets(shapes), wired(*shapes)
            for first, second in pairs_of(len(wiring))[:30]:
                for n in (1, 2, 3, 5, 30):
                    self.assertEqual(facing(wiring, first, second, n), plain_facing(nets, first, second, n))

    def test_at_the_very_distance(self):
        for layer in CONDUCTORS:
            for n in (1, 2, 7):
                for i, j in [(n + 1, 0), (0, n + 1), (-n - 1, 0), (0, -n - 1)]:
                    wiring = wired((layer, (0, 0, 1, 1)), (layer, (i, j, i + 1, j + 1)))
                    self.assertEqual([facing(wiring, 0, 1, at) for at in (n, n + 1, n + 2)], [0, 1, 1])
                    self.assertEqual([facing(wiring, 1, 0, at) for at in (n, n + 1, n + 2)], [0, 1, 1])

    def test_not_diagonally(self):
        wiring = wired(("metal", (0, 0, 1, 1)), ("metal", (1, 1, 2, 2)), ("metal", (3, 2, 4, 3)))
        self.assertEqual([facing(wiring, first, second, 9) for first, second in [(0, 1), (0, 2), (1, 2)]], [0, 0, 0])

    def test_other_squares_in_between(self):
        wiring = wired(("metal", (0, 0, 1, 1)), ("metal", (2, -3, 3, 4)), ("metal", (4, 0, 5, 1)))
        left, right = wiring.net_at("metal", 0, 0), wiring.net_at("metal", 4, 0)
        self.assertEqual([facing(wiring, left, right, n) for n in (3, 4)], [0, 1])

    def test_long_sides(self):
        # Ten lines, and in each of them the pairs of x = 0, 1 and x = 4, 5.
        wiring = wired(("top", (0, 0, 2, 10)), ("top", (4, 0, 6, 10)))
        self.assertEqual([facing(wiring, 0, 1, n) for n in range(1, 8)], [0, 0, 10, 30, 40, 40, 40])

    def test_different_layers_do_not_face_each_other(self):
        wiring = wired(("metal", (0, 0, 1, 1)), ("top", (2, 0, 3, 1)), ("poly", (4, 0, 5, 1)), ("active", (6, 0, 7, 1)))
        self.assertEqual([facing(wiring, first, second, 99) for first, second in pairs_of(4)], [0] * 12)

    def test_several_layers_together(self):
        shapes = [(layer, (x, 0, x + 1, 1)) for layer in ("metal", "top", "via") for x in (0, 3)]
        self.assertEqual(facing(wired(*shapes), 0, 1, 3), 2)
        self.assertEqual(facing(wired(*shapes), 0, 1, 2), 0)

    def test_active_under_poly_does_not_count(self):
        wiring = wired(("active", (0, 0, 6, 2)), ("poly", (2, -1, 4, 3)))
        self.assertEqual([facing(wiring, 0, 1, n) for n in (2, 3, 4, 5)], [0, 2, 6, 8])

    def test_combs(self):
        lines = [("metal", (0, 4 * at, 50, 4 * at + 1)) for at in range(15)] + [("top", (0, 0, 1, 60))]
        others = [("metal", (10, 4 * at + 2, 60, 4 * at + 3)) for at in range(15)] + [("top", (59, 0, 60, 60))]
        vias = [("via", (0, 0, 1, 60)), ("via", (59, 0, 60, 60))]
        shapes = lines + others + vias
        nets, wiring = plain_nets(shapes), wired(*shapes)
        self.assertEqual(len(wiring), 2)
        for n in (1, 2, 4, 61):
            self.assertEqual(facing(wiring, 0, 1, n), plain_facing(nets, 0, 1, n))

    def test_huge(self):
        wiring = wired(("metal", (-HUGE, 0, 0, HUGE)), ("metal", (5, 0, HUGE, HUGE)))
        self.assertEqual(facing(wiring, 0, 1, 5), 0)
        self.assertEqual(facing(wiring, 0, 1, 6), HUGE)
        self.assertEqual(facing(wiring, 0, 1, 8), 6 * HUGE)
        self.assertEqual(facing(wiring, 0, 1, 9 * HUGE), HUGE * HUGE * (HUGE - 5))


class WhatItDependsOn(unittest.TestCase):
    def test_cut_otherwise(self):
        source = random.Random(5)
        for shapes in samples(15, seed=6):
            first, second = wired(*shapes), wired(*cut_shapes(source, shapes))
            self.assertEqual(couplings(first), couplings(second))
            for pair in pairs_of(len(first))[:20]:
                self.assertEqual(facing(first, *pair, 3), facing(second, *pair, 3))

    def test_moved(self):
        for turn in range(TURN_COUNT):
            for shapes in samples(3, seed=7 + turn):
                layout, move = Layout(shapes, []), (turn, HUGE, -turn)
                first, second = connect(layout), connect(layout.moved(move))
                self.assertEqual(sorted(row[2] for row in couplings(first)), sorted(row[2] for row in couplings(second)))
                counts = [sorted(facing(wiring, *pair, 2) for pair in pairs_of(len(wiring))) for wiring in (first, second)]
                self.assertEqual(counts[0], counts[1])


if __name__ == "__main__":
    unittest.main()
