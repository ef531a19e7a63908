"""Points 50 to 53: open squares, wires, what they join, and barriers."""

import random
import unittest

from reticle.errors import NoWire, TooLarge, UnknownNet
from reticle.layouts import LAYERS, Layout
from reticle.moves import move_box, move_square
from reticle.regions import area, covers, is_region
from reticle.routing import is_barrier, is_open, joined, wire
from reticle.transistors import channels
from reticle.wiring import connect
from tests.helpers import HUGE, cut_shapes, neighbours, random_shapes, region_of_squares, squares_of
from tests.plain import plain_nets, squares_on

TWO = [("metal", (0, 0, 1, 1)), ("metal", (3, 0, 4, 1))]

# Two nets with a third one between them.
PARTED = [("metal", (0, 0, 1, 1)), ("metal", (2, -5, 3, 5)), ("metal", (4, 0, 5, 1))]


def squares_around(box):
    """The squares of a box and of a frame around it."""
    x0, y0, x1, y1 = box
    return [(x, y) for x in range(x0 - 2, x1 + 2) for y in range(y0 - 2, y1 + 2)]


def open_squares(shapes, two, window, gap):
    """The set of the open squares, each looked at by itself."""
    nets, squares, found = plain_nets(shapes), squares_on(shapes), set()
    foreign = {place for place, net in nets.items() if net not in two}
    for x, y in squares_of([window]):
        near = {("metal", x + i, y + j) for i in range(-gap, gap + 1) for j in range(-gap, gap + 1)}
        if (x, y) in squares["contact"]:
            near |= {("active", x, y), ("poly", x, y)}
        if (x, y) in squares["via"]:
            near.add(("top", x, y))
        if not near & foreign:
            found.add((x, y))
    return found


def metal_of(shapes, net):
    """The set of the squares of a net on "metal"."""
    return {(x, y) for (layer, x, y), number in plain_nets(shapes).items() if layer == "metal" and number == net}


def reached_squares(free, starts):
    """The squares that chains of open squares lead to, each with the fewest squares of a chain."""
    lengths = {square: 1 for square in starts & free}
    queue = list(lengths)
    for x, y in queue:
        for square in neighbours(x, y):
            if square in free and square not in lengths:
                lengths[square] = lengths[x, y] + 1
                queue.append(square)
    return lengths


def samples(count, seed=1, layers=LAYERS, most=2, size=4, longest=3):
    """Lists of shapes with pairs of nets and windows, the same on each call."""
    source, found = random.Random(seed), []
    while len(found) < count:
        shapes = random_shapes(source, layers, most, size, longest) + [("metal", (7, 7, 8, 8))]
        net_count = len(set(plain_nets(shapes).values()))
        x0, y0 = source.randint(-6, 3), source.randint(-6, 3)
        window = (x0, y0, x0 + source.randint(1, 12), y0 + source.randint(1, 12))
        found.append((shapes, source.randrange(net_count), source.randrange(net_count), window, source.choice([1, 1, 2, 3])))
    return found


def metal_samples(count, seed):
    """Samples in which most windows have both nets in them."""
    return [(shapes, first, second, (-8, -8, 9, 9), gap) for shapes, first, second, _, gap
            in samples(count, seed, ["metal", "metal", "via", "top", "contact", "poly"], most=1, size=5)]


class IsOpen(unittest.TestCase):
    def agree(self, shapes, two, window, gap, places=None):
        layout = Layout(shapes, [])
        wiring, expected = connect(layout), open_squares(shapes, two, window, gap)
        for x, y in places or squares_around(window):
            self.assertIs(is_open(layout, wiring, two, window, gap, x, y), (x, y) in expected, (shapes, two, x, y))

    def test_against_the_places(self):
        for shapes, first, second, window, gap in samples(40):
            self.agree(shapes, (first, second), window, gap)

    def test_the_window(self):
        layout = Layout(TWO, [])
        wiring, window = connect(layout), (0, 0, 4, 1)
        found = {(x, y) for x, y in squares_around(window) if is_open(layout, wiring, (0, 1), window, 1, x, y)}
        self.assertEqual(found, {(0, 0), (1, 0), (2, 0), (3, 0)})

    def opened(self, shapes, two, gap, window=(-20, -20, 21, 21)):
        """The squares of a large window that are open."""
        layout = Layout(shapes, [])
        wiring = connect(layout)
        return {(x, y) for x, y in squares_of([window]) if is_open(layout, wiring, two, window, gap, x, y)}

    def test_other_nets_at_within_and_beyond_the_gap(self):
        shapes = [("metal", (-19, -19, -18, -18)), ("metal", (0, 0, 1, 1))]
        for gap in (1, 2, 5):
            closed = {(x, y) for x in range(-gap, gap + 1) for y in range(-gap, gap + 1)}
            self.assertEqual(self.opened(shapes, (0, 0), gap), squares_of([(-20, -20, 21, 21)]) - closed)

    def test_other_nets_outside_of_the_window(self):
        shapes = [("metal", (-3, 0, -2, 1)), ("metal", (0, 0, 1, 1)), ("metal", (9, 0, 10, 1))]
        window = (0, 0, 4, 1)
        self.assertEqual(self.opened(shapes, (1, 2), 2, window), {(x, 0) for x in range(4)})
        self.assertEqual(self.opened(shapes, (1, 2), 3, window), {(x, 0) for x in range(1, 4)})

    def test_metal_of_the_two_nets_does_not_matter(self):
        self.assertEqual(len(self.opened(TWO, (0, 1), 9)), 41 * 41)
        self.assertEqual(len(self.opened(TWO, (1, 0), 9)), 41 * 41)
        self.assertEqual(len(self.opened(TWO, (0, 0), 1)), 41 * 41 - 9)
        self.assertEqual(len(self.opened(TWO, (1, 1), 1)), 41 * 41 - 9)

    def test_contact_over_active_and_poly(self):
        for layer in ("active", "poly"):
            under = [(layer, (0, 0, 6, 1)), ("metal", (15, 15, 16, 16))]
            both = under + [("contact", (4, 0, 9, 3))]
            everything = squares_of([(-20, -20, 21, 21)])
            self.assertEqual(self.opened(under, (1, 1), 1), everything)
            self.assertEqual(self.opened(both, (1, 1), 1), everything - {(4, 0), (5, 0)})
            self.assertEqual(self.opened(both, (0, 1), 1), everything)
            self.assertEqual(self.opened(both, (1, 0), 1), everything)

    def test_contact_over_a_channel(self):
        # There is no place of "active" at the channel.
        shapes = [("active", (0, 0, 6, 2)), ("poly", (2, 0, 4, 2)), ("contact", (1, 0, 5, 1))]
        everything = squares_of([(-20, -20, 21, 21)])
        self.assertEqual(self.opened(shapes, (2, 2), 1), everything - {(1, 0), (4, 0)})
        self.assertEqual(self.opened(shapes, (0, 1), 1), everything - {(2, 0), (3, 0)})
        self.assertEqual(self.opened(shapes, (0, 2), 1), everything - {(4, 0)})

    def test_via_under_top(self):
        shapes = [("top", (0, 0, 3, 1)), ("via", (2, 0, 5, 1)), ("contact", (0, 0, 1, 1)), ("poly", (9, 9, 10, 10))]
        everything = squares_of([(-20, -20, 21, 21)])
        self.assertEqual(self.opened(shapes, (0, 0), 1), everything - {(2, 0)})
        self.assertEqual(self.opened(shapes, (0, 1), 1), everything)

    def test_via_does_not_matter_to_lower_layers(self):
        shapes = [("poly", (0, 0, 3, 1)), ("via", (0, 0, 3, 1)), ("active", (0, 5, 3, 6)), ("top", (0, 8, 3, 9)),
                  ("contact", (0, 8, 3, 9)), ("metal", (15, 15, 16, 16))]
        self.assertEqual(self.opened(shapes, (2, 2), 1), squares_of([(-20, -20, 21, 21)]))

    def test_huge(self):
        layout = Layout([("metal", (-HUGE, 0, HUGE, 1)), ("metal", (0, 2 * HUGE, 1, 3 * HUGE))], [])
        wiring, window = connect(layout), (-HUGE, -HUGE, HUGE, 3 * HUGE)
        self.assertIs(is_open(layout, wiring, (0, 0), window, HUGE, 0, HUGE - 1), True)
        self.assertIs(is_open(layout, wiring, (0, 0), window, HUGE, 0, HUGE), False)
        self.assertIs(is_open(layout, wiring, (1, 1), window, HUGE, 5, HUGE + 1), True)
        self.assertIs(is_open(layout, wiring, (1, 1), window, HUGE, 5, HUGE), False)


class Wire(unittest.TestCase):
    def right_or_none(self, shapes, first, second, window, gap):
        """Checks the wire or the barrier, and returns whether there is a wire."""
        layout = Layout(shapes, [])
        free = open_squares(shapes, (first, second), window, gap)
        lengths = reached_squares(free, metal_of(shapes, first))
        ends = metal_of(shapes, second) & set(lengths)
        try:
            squares = wire(layout, first, second, window=window, gap=gap)
        except NoWire as error:
            self.assertEqual(ends, set())
            self.assertIs(is_region(error.barrier), True)
            self.assertIs(is_barrier(layout, first, second, error.barrier, window=window, gap=gap), True)
            return False
        self.assertIsInstance(squares, list)
        self.assertEqual(len(squares), min(lengths[end] for end in ends))
        self.assertIn(squares[0], metal_of(shapes, first))
        self.assertIn(squares[-1], ends)
        self.assertLessEqual(set(squares), free)
        for square, following in zip(squares, squares[1:]):
            self.assertIn(following, neighbours(*square))
        barrier = region_of_squares(set(lengths))
        self.assertIs(is_barrier(layout, first, second, barrier, window=window, gap=gap), False)
        return True

    def test_examples(self):
        self.assertEqual(wire(Layout(TWO, []), 0, 1, window=(0, 0, 4, 1)), [(0, 0), (1, 0), (2, 0), (3, 0)])
        with self.assertRaises(NoWire):
            wire(Layout(PARTED, []), 1, 2, window=(0, -2, 5, 3))

    def test_against_a_plain_search(self):
        found = [self.right_or_none(*sample) for sample in samples(60) + metal_samples(120, 2)]
        self.assertGreater(found.count(True), 40)
        self.assertGreater(found.count(False), 40)

    def test_backwards(self):
        self.assertEqual(wire(Layout(TWO, []), 1, 0, window=(0, 0, 4, 1)), [(3, 0), (2, 0), (1, 0), (0, 0)])

    def test_around_another_net(self):
        # The third net is one square wide, and the wire keeps the gap on both sides and around its end.
        shapes = [("metal", (0, 0, 1, 1)), ("metal", (10, 0, 11, 1)), ("metal", (5, -9, 6, 3))]
        layout = Layout(shapes, [])
        wiring = connect(layout)
        first, second = wiring.net_at("metal", 0, 0), wiring.net_at("metal", 10, 0)
        for gap in (1, 2, 3):
            self.assertEqual(len(wire(layout, first, second, window=(-5, -20, 20, 20), gap=gap)), 11 + 2 * (3 + gap))
            self.assertIs(self.right_or_none(shapes, first, second, (0, 0, 11, 4 + gap), gap), True)
            self.assertIs(self.right_or_none(shapes, first, second, (0, 0, 11, 3 + gap), gap), False)

    def test_the_gap_is_one_if_nothing_is_said(self):
        layout = Layout(PARTED[:1] + [("metal", (5, 0, 6, 1)), ("metal", (2, 2, 3, 9))], [])
        self.assertEqual(len(wire(layout, 0, 1, window=(0, 0, 6, 1))), 6)
        with self.assertRaises(NoWire):
            wire(layout, 0, 1, window=(0, 0, 6, 1), gap=2)

    def test_the_same_net_twice(self):
        layout = Layout(PARTED, [])
        for net in range(3):
            squares = wire(layout, net, net, window=(-3, -6, 8, 6))
            self.assertEqual(len(squares), 1)
            self.assertEqual(connect(layout).net_at("metal", *squares[0]), net)
        # The square of the net is outside of the window, or too near to another net.
        self.assertIs(self.right_or_none(PARTED, 1, 1, (1, -2, 5, 3), 1), False)
        self.assertIs(self.right_or_none(PARTED, 1, 1, (0, -2, 5, 3), 2), False)

    def test_nets_at_the_distance_of_one(self):
        shapes = [("metal", (0, 0, 1, 1)), ("metal", (1, 1, 2, 2))]
        self.assertEqual(len(wire(Layout(shapes, []), 0, 1, window=(0, 0, 2, 2))), 3)
        shapes = [("metal", (0, 0, 1, 1)), ("metal", (2, 0, 3, 1))]
        self.assertEqual(wire(Layout(shapes, []), 0, 1, window=(0, 0, 3, 1)), [(0, 0), (1, 0), (2, 0)])

    def test_only_squares_on_metal_begin_and_end_a_wire(self):
        # The first net reaches further on "poly" than on "metal".
        shapes = [("metal", (0, 0, 1, 1)), ("contact", (0, 0, 1, 1)), ("poly", (0, 0, 8, 1)), ("metal", (9, 0, 10, 1))]
        layout = Layout(shapes, [])
        wiring = connect(layout)
        first, second = wiring.net_at("poly", 7, 0), wiring.net_at("metal", 9, 0)
        self.assertEqual(wire(layout, first, second, window=(0, 0, 10, 1)), [(x, 0) for x in range(10)])

    def test_nets_without_metal(self):
        shapes = [("poly", (0, 0, 3, 1)), ("top", (0, 0, 3, 1)), ("metal", (5, 0, 6, 1))]
        for first, second in [(0, 1), (0, 2), (1, 0), (2, 0), (0, 0)]:
            self.assertIs(self.right_or_none(shapes, first, second, (0, 0, 9, 9), 1), first == second == 1)
        with self.assertRaises(NoWire) as caught:
            wire(Layout(shapes, []), 0, 1, window=(0, 0, 9, 9))
        self.assertEqual(caught.exception.barrier, ())

    def test_windows_that_cut_all_wires_off(self):
        shapes = TWO + [("metal", (1, -1, 2, 2)), ("metal", (2, 3, 3, 4))]
        for window in [(0, 0, 1, 1), (3, 0, 4, 1), (0, 0, 3, 1), (9, 9, 12, 12), (-1, 0, 0, 1), (0, 1, 4, 5)]:
            for gap in (1, 2):
                self.assertIs(self.right_or_none(TWO, 0, 1, window, gap), False)
                self.right_or_none(shapes, 0, 1, window, gap)

    def test_no_wire_with_its_barrier(self):
        with self.assertRaises(NoWire) as caught:
            wire(Layout(PARTED, []), 1, 2, window=(0, -2, 5, 3))
        self.assertIs(type(caught.exception), NoWire)
        self.assertEqual(caught.exception.barrier, ((0, -2, 1, 3),))

    def test_unknown_nets(self):
        layout = Layout(TWO, [])
        for first, second, net in [(-1, 0, -1), (2, 0, 2), (0, -1, -1), (1, 2, 2), (5, -7, 5), (-7, 5, -7), (HUGE, 0, HUGE)]:
            with self.assertRaises(UnknownNet) as caught:
                wire(layout, first, second, window=(0, 0, 4, 1))
            self.assertIs(type(caught.exception), UnknownNet)
            self.assertEqual(caught.exception.net, net)
            # Before the window and the wire are looked at.
            with self.assertRaises(UnknownNet):
                wire(layout, first, second, window=(-HUGE, 0, HUGE, 1), limit=1)
        with self.assertRaises(UnknownNet) as caught:
            wire(Layout([], []), 0, 0, window=(0, 0, 1, 1))
        self.assertEqual(caught.exception.net, 0)

    def test_large_windows(self):
        layout = Layout(TWO, [])
        for window, limit in [((0, 0, 5, 4), 19), ((0, 0, 4, 1), 3), ((0, 0, HUGE, HUGE), HUGE), ((9, 9, 12, 12), 8)]:
            with self.assertRaises(TooLarge) as caught:
                wire(layout, 0, 1, window=window, limit=limit)
            self.assertIs(type(caught.exception), TooLarge)
            self.assertEqual(caught.exception.limit, limit)
        self.assertEqual(len(wire(layout, 0, 1, window=(0, 0, 5, 4), limit=20)), 4)
        self.assertEqual(len(wire(layout, 0, 1, window=(0, 0, 4, 1), limit=4)), 4)
        with self.assertRaises(NoWire):
            wire(layout, 0, 1, window=(9, 9, 12, 12), limit=9)

    def test_two_thousand_squares_if_nothing_is_said(self):
        layout = Layout(TWO, [])
        self.assertEqual(len(wire(layout, 0, 1, window=(-10, -10, 40, 30))), 4)
        with self.assertRaises(TooLarge) as caught:
            wire(layout, 0, 1, window=(-10, -10, 77, 13))
        self.assertEqual(caught.exception.limit, 2000)

    def test_a_long_wire(self):
        walls = [("poly", (x, 0, x + 1, 39)) if x % 4 == 1 else ("poly", (x, 1, x + 1, 40)) for x in range(1, 49, 2)]
        holes = [("contact", box) for _, box in walls]
        ends = [("metal", (0, 0, 1, 1)), ("metal", (49, 0, 50, 1))]
        shapes = walls + holes + ends
        layout = Layout(shapes, [])
        wiring = connect(layout)
        first, second = wiring.net_at("metal", 0, 0), wiring.net_at("metal", 49, 0)
        self.assertGreater(len(wire(layout, first, second, window=(0, 0, 50, 40))), 900)
        self.right_or_none(shapes, first, second, (0, 0, 50, 40), 1)

    def test_huge(self):
        far = [("metal", (HUGE, HUGE, HUGE + 1, HUGE + 1)), ("metal", (HUGE + 3, HUGE, 3 * HUGE, HUGE + 1)),
               ("metal", (-HUGE, 0, HUGE, 1))]
        layout = Layout(far, [])
        self.assertEqual(wire(layout, 1, 2, window=(HUGE, HUGE, HUGE + 9, HUGE + 1)), [(HUGE + i, HUGE) for i in range(4)])
        self.assertEqual(len(wire(layout, 1, 2, window=(HUGE, HUGE, HUGE + 9, HUGE + 1), gap=HUGE - 1)), 4)
        with self.assertRaises(NoWire):
            wire(layout, 1, 2, window=(HUGE, HUGE, HUGE + 9, HUGE + 1), gap=HUGE)
        # Where there is no wire, large windows take no time.
        with self.assertRaises(NoWire) as caught:
            wire(layout, 0, 1, window=(-HUGE, 0, 2 * HUGE, 5), limit=99 * HUGE)
        self.assertEqual(caught.exception.barrier, ((-HUGE, 0, 2 * HUGE, 5),))

    def test_keywords(self):
        with self.assertRaises(TypeError):
            wire(Layout(TWO, []), 0, 1, (0, 0, 4, 1))
        with self.assertRaises(TypeError):
            is_barrier(Layout(TWO, []), 0, 1, (), (0, 0, 4, 1))

    def test_cut_otherwise(self):
        source = random.Random(3)
        for shapes, first, second, window, gap in metal_samples(30, 4):
            answers = []
            for layout in (Layout(shapes, []), Layout(cut_shapes(source, shapes), [("a", "metal", 0, 0)])):
                try:
                    answers.append(len(wire(layout, first, second, window=window, gap=gap)))
                except NoWire as error:
                    answers.append(error.barrier)
            self.assertEqual(answers[0], answers[1])


class Barriers(unittest.TestCase):
    def plainly(self, shapes, first, second, squares, window, gap):
        """Point 53, square by square."""
        free = open_squares(shapes, (first, second), window, gap)
        around = {place for square in squares for place in neighbours(*square)}
        return (
            metal_of(shapes, first) & free <= squares <= free
            and around & free <= squares
            and not squares & metal_of(shapes, second)
        )

    def agree(self, shapes, first, second, squares, window, gap):
        expected = self.plainly(shapes, first, second, squares, window, gap)
        found = is_barrier(Layout(shapes, []), first, second, region_of_squares(squares), window=window, gap=gap)
        self.assertIs(found, expected)
        return expected

    def test_right_and_wrong_ones(self):
        source, found = random.Random(5), []
        for shapes, first, second, window, gap in samples(60, 6) + metal_samples(60, 7):
            free = open_squares(shapes, (first, second), window, gap)
            right = set(reached_squares(free, metal_of(shapes, first)))
            found.append(self.agree(shapes, first, second, right, window, gap))
            others = [set(), free, right | metal_of(shapes, second)]
            if right:
                others.append(right - {source.choice(sorted(right))})
            others.append(right | {source.choice(sorted(squares_of([window])))})
            others.append(right | {(window[0] - 1, window[1])})
            for squares in others:
                self.agree(shapes, first, second, squares, window, gap)
        self.assertGreater(found.count(True), 30)
        self.assertGreater(found.count(False), 10)

    def barrier(self, region, shapes=PARTED, first=1, second=2, window=(0, -2, 5, 3), gap=1):
        return is_barrier(Layout(shapes, []), first, second, region, window=window, gap=gap)

    def test_by_hand(self):
        self.assertIs(self.barrier(((0, -2, 1, 3),)), True)
        # A square too few at an end, in the middle and at the net.
        self.assertIs(self.barrier(((0, -2, 1, 2),)), False)
        self.assertIs(self.barrier(((0, -2, 1, 0), (0, 1, 1, 3))), False)
        self.assertIs(self.barrier(((0, 0, 1, 1),)), False)
        # A square too many: one that is not open, and one outside of the window.
        self.assertIs(self.barrier(((0, -2, 2, 3),)), False)
        self.assertIs(self.barrier(((0, -2, 1, 4),)), False)
        self.assertIs(self.barrier(()), False)
        # With all squares that are open on the other side, a square of the second net is among them.
        self.assertIs(self.barrier(((0, -2, 1, 3), (4, -2, 5, 3))), False)

    def test_from_the_other_side(self):
        self.assertIs(self.barrier(((4, -2, 5, 3),), first=2, second=1), True)
        self.assertIs(self.barrier(((0, -2, 1, 3),), first=2, second=1), False)

    def test_closed_in_each_direction(self):
        # One square between the nets is not open: a contact over poly. All squares beside it are.
        shapes = [("metal", (0, 0, 1, 1)), ("metal", (4, 0, 5, 1)), ("contact", (2, 0, 3, 1)), ("poly", (2, 0, 3, 1))]
        for turn in range(8):
            layout = Layout(shapes, []).moved((turn, 0, 0))
            wiring = connect(layout)
            first, second = [wiring.net_at("metal", *move_square((turn, 0, 0), x, 0)) for x in (0, 4)]
            window = move_box((turn, 0, 0), (-1, 0, 5, 1))
            for x0, x1, expected in [(-1, 2, True), (0, 2, False), (-1, 1, False), (0, 1, False), (-1, 3, False),
                                     (-1, 4, False)]:
                region = (move_box((turn, 0, 0), (x0, 0, x1, 1)),)
                self.assertIs(is_barrier(layout, first, second, region, window=window), expected)

    def test_more_than_what_is_reached(self):
        # An island of open squares without squares of the two nets may be part of a barrier, as a whole.
        shapes = [("metal", (0, 0, 1, 1)), ("metal", (9, 0, 10, 1)), ("metal", (2, 2, 3, 3)), ("metal", (7, 2, 8, 3))]
        layout, window = Layout(shapes, []), (0, 1, 10, 2)
        self.assertIs(is_barrier(layout, 0, 1, (), window=window), True)
        self.assertIs(is_barrier(layout, 0, 1, ((4, 1, 6, 2),), window=window), True)
        self.assertIs(is_barrier(layout, 0, 1, ((4, 1, 5, 2),), window=window), False)
        self.assertIs(is_barrier(layout, 0, 1, ((0, 1, 1, 2), (4, 1, 6, 2)), window=window), True)

    def test_the_same_net_twice(self):
        self.assertIs(self.barrier((), first=1, second=1), False)
        self.assertIs(self.barrier(((0, -2, 1, 3),), first=1, second=1), False)
        self.assertIs(self.barrier((), first=1, second=1, window=(1, -2, 5, 3)), True)

    def test_exactly_one_of_wire_and_barrier(self):
        for shapes, first, second, window, gap in metal_samples(60, 8):
            layout = Layout(shapes, [])
            try:
                wire(layout, first, second, window=window, gap=gap)
                has_wire = True
            except NoWire:
                has_wire = False
            free = open_squares(shapes, (first, second), window, gap)
            # The squares that are reached are in every barrier, so they are one if there is any.
            least = region_of_squares(set(reached_squares(free, metal_of(shapes, first))))
            self.assertIs(is_barrier(layout, first, second, least, window=window, gap=gap), not has_wire)

    def test_huge(self):
        shapes = [("metal", (-HUGE, 0, 1, 1)), ("metal", (3, -HUGE, 4, HUGE)), ("metal", (6, 0, HUGE, 1))]
        window = (-1000, 0, 1000, 1)
        self.assertIs(self.barrier(((-1000, 0, 2, 1),), shapes, 1, 2, window), True)
        self.assertIs(self.barrier(((-999, 0, 2, 1),), shapes, 1, 2, window), False)


class Joined(unittest.TestCase):
    def test_by_hand(self):
        layout = Layout(TWO, [("a", "metal", 0, 0), ("b", "top", 5, 5)])
        found = joined(layout, [(0, 0), (1, 0), (2, 0), (3, 0)])
        self.assertIsInstance(found, Layout)
        self.assertEqual(found, Layout([("metal", (0, 0, 4, 1))], [("a", "metal", 0, 0), ("b", "top", 5, 5)]))

    def test_nothing_else_changes(self):
        shapes = [(layer, (0, 0, 2, 2)) for layer in LAYERS]
        squares = [(2, 0), (3, 0)]
        layout = Layout(shapes, [])
        found = joined(layout, squares)
        self.assertEqual(squares, [(2, 0), (3, 0)])
        self.assertEqual(layout, Layout(shapes, []))
        for layer in LAYERS:
            expected = ((0, 0, 4, 1), (0, 1, 2, 2)) if layer == "metal" else ((0, 0, 2, 2),)
            self.assertEqual(found.region(layer), expected)
        self.assertEqual(joined(layout, []), layout)

    def test_what_a_wire_joins(self):
        wires = 0
        for shapes, first, second, window, gap in metal_samples(80, 9) + samples(40, 10):
            layout = Layout(shapes, [("a", "metal", 7, 7)])
            try:
                squares = wire(layout, first, second, window=window, gap=gap)
            except NoWire:
                continue
            wires += 1
            after = joined(layout, squares)
            self.same_nets(shapes, first, second, squares, after)
            self.assertEqual(after.labels, layout.labels)
            self.assertEqual(channels(after), channels(layout))
        self.assertGreater(wires, 20)

    def same_nets(self, shapes, first, second, squares, after):
        """The two nets and the squares are one net, and the others are as before."""
        wiring, nets = connect(after), plain_nets(shapes)
        one = {wiring.net_at("metal", x, y) for x, y in squares}
        one |= {wiring.net_at(*place) for place, net in nets.items() if net in (first, second)}
        self.assertEqual(len(one), 1)
        self.assertEqual(len(wiring), len(set(nets.values())) - (0 if first == second else 1))
        partners = {}
        for place, net in nets.items():
            self.assertEqual(partners.setdefault(net, wiring.net_at(*place)), wiring.net_at(*place))
        self.assertEqual(sorted(set(partners.values())), list(range(len(wiring))))

    def test_huge(self):
        after = joined(Layout([("metal", (HUGE, 0, 2 * HUGE, 1))], []), [(HUGE - 1, 0)])
        self.assertEqual(after.region("metal"), ((HUGE - 1, 0, 2 * HUGE, 1),))


class Arguments(unittest.TestCase):
    def test_nothing_is_changed(self):
        layout = Layout(PARTED, [("a", "metal", 0, 0)])
        shapes, labels = layout.shapes(), layout.labels
        wire(layout, 1, 1, window=(0, -2, 5, 3))
        is_barrier(layout, 1, 2, ((0, -2, 1, 3),), window=(0, -2, 5, 3))
        self.assertEqual(layout.shapes(), shapes)
        self.assertEqual(layout.labels, labels)

    def test_the_squares_of_barriers(self):
        with self.assertRaises(NoWire) as caught:
            wire(Layout(PARTED, []), 1, 2, window=(0, -2, 5, 3))
        self.assertEqual(area(caught.exception.barrier), 5)
        self.assertIs(covers(caught.exception.barrier, 0, 2), True)


if __name__ == "__main__":
    unittest.main()
