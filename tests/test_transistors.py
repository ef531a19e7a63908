"""Points 33 and 34: channels and transistors."""

import random
import unittest

from reticle.layouts import Layout
from reticle.moves import move_box
from reticle.regions import move_region, region_of
from reticle.transistors import channels, is_well_formed, transistor
from reticle.wiring import connect
from tests.helpers import HUGE, TURN_COUNT, cut_shapes, neighbours, random_box, region_of_squares
from tests.plain import channel_squares, on_layer

# A transistor whose ends lie to the left and to the right.
ACROSS = [("active", (0, 0, 6, 2)), ("poly", (2, -1, 4, 3))]

# One whose ends lie below and above.
UPRIGHT = [("active", (0, 0, 3, 9)), ("poly", (-1, 4, 4, 5))]


def outer_squares(channel):
    """The squares outside along the left, right, lower and upper sides of a set of squares that is a box."""
    steps = [(-1, 0), (1, 0), (0, -1), (0, 1)]
    return [{(x + i, y + j) for x, y in channel} - channel for i, j in steps]


def is_plainly_well_formed(shapes, channel):
    """Point 33, square by square."""
    xs, ys = {x for x, _ in channel}, {y for _, y in channel}
    if len(channel) != (max(xs) - min(xs) + 1) * (max(ys) - min(ys) + 1):
        return False
    well = on_layer(shapes, "well")
    if channel & well not in (channel, set()):
        return False
    active = on_layer(shapes, "active") - on_layer(shapes, "poly")
    left, right, below, above = outer_squares(channel)
    return any(
        ends <= active and not sides & active for ends, sides in [(left | right, below | above), (below | above, left | right)]
    )


def crossings(count, seed=1):
    """Shapes in which "poly" crosses "active" in many ways."""
    source, found = random.Random(seed), []
    for _ in range(count):
        shapes = []
        for at in range(source.randint(1, 3)):
            x, y, length = 12 * at, source.randint(-2, 2), source.randint(1, 3)
            width = source.randint(1, 3)
            shapes.append(("active", (x - source.randint(0, 3), y, x + length + source.randint(0, 3), y + width)))
            below, above = source.choice([0, 0, 1]), source.choice([0, 0, 1, 1 - width])
            shapes.append(("poly", (x, y - below, x + length, y + width + above)))
            if source.random() < 0.3:
                shapes.append(("active", random_box(source, 6, 4)))
            if source.random() < 0.5:
                shapes.append(("well", (x - source.choice([0, 0, -1, 2]), y, x + 5, y + 4)))
        found.append(shapes)
    return found


def formed(*shapes):
    """Whether the only channel of shapes is well formed."""
    layout = Layout(list(shapes), [])
    found = channels(layout)
    assert len(found) == 1
    return is_well_formed(layout, found[0])


def transistors(layout):
    """All transistors of a layout whose channels are well formed."""
    wiring = connect(layout)
    return [transistor(layout, wiring, channel) for channel in channels(layout)]


class Channels(unittest.TestCase):
    def test_in_their_order(self):
        shapes = [("active", (0, 0, 9, 9)), ("poly", (5, 3, 6, 20)), ("poly", (1, 5, 2, 6)), ("poly", (-3, 7, 1, 8)),
                  ("poly", (8, 3, 20, 4))]
        self.assertEqual(channels(Layout(shapes, [])),
                         [((5, 3, 6, 9),), ((8, 3, 9, 4),), ((1, 5, 2, 6),), ((0, 7, 1, 8),)])

    def test_against_the_squares(self):
        for shapes in crossings(40):
            self.assertEqual(channels(Layout(shapes, [])), [region_of_squares(part) for part in channel_squares(shapes)])

    def test_none(self):
        self.assertEqual(channels(Layout([], [])), [])
        self.assertEqual(channels(Layout([("active", (0, 0, 3, 3)), ("poly", (3, 0, 5, 3))], [])), [])
        self.assertEqual(channels(Layout([("active", (0, 0, 3, 3)), ("metal", (0, 0, 5, 3))], [])), [])

    def test_that_meet_at_a_corner(self):
        shapes = [("active", (0, 0, 2, 2)), ("poly", (0, 0, 1, 1)), ("poly", (1, 1, 2, 2))]
        self.assertEqual(channels(Layout(shapes, [])), [((0, 0, 1, 1),), ((1, 1, 2, 2),)])

    def test_new_lists(self):
        layout = Layout(ACROSS, [])
        channels(layout).append("x")
        self.assertEqual(channels(layout), [((2, 0, 4, 2),)])


class WellFormed(unittest.TestCase):
    def test_against_the_squares(self):
        answers = []
        for shapes in crossings(150):
            layout = Layout(shapes, [])
            for part in channel_squares(shapes):
                expected = is_plainly_well_formed(shapes, part)
                self.assertIs(is_well_formed(layout, region_of_squares(part)), expected, shapes)
                answers.append(expected)
        self.assertGreater(answers.count(True), 30)
        self.assertGreater(answers.count(False), 30)

    def test_both_directions(self):
        self.assertIs(formed(*ACROSS), True)
        self.assertIs(formed(*UPRIGHT), True)

    def test_poly_may_end_with_the_channel(self):
        self.assertIs(formed(("active", (0, 0, 6, 2)), ("poly", (2, 0, 4, 2))), True)
        self.assertIs(formed(("active", (0, 0, 6, 2)), ("poly", (2, -9, 4, 2))), True)

    def test_active_along_one_end_only(self):
        self.assertIs(formed(("active", (0, 0, 4, 2)), ("poly", (2, -1, 4, 3))), False)
        self.assertIs(formed(("active", (2, 0, 6, 2)), ("poly", (2, -1, 4, 3))), False)
        self.assertIs(formed(("active", (2, -3, 4, 2)), ("poly", (1, 0, 5, 2))), False)
        self.assertIs(formed(("active", (2, 0, 4, 5)), ("poly", (1, 0, 5, 2))), False)
        self.assertIs(formed(("active", (2, 0, 4, 2)), ("poly", (2, 0, 4, 2))), False)

    def test_active_along_three_sides(self):
        self.assertIs(formed(("active", (0, 0, 6, 3)), ("poly", (2, -1, 4, 2))), False)
        self.assertIs(formed(("active", (0, 0, 6, 2)), ("poly", (2, 0, 4, 1))), False)

    def test_active_along_all_four_sides(self):
        self.assertIs(formed(("active", (0, 0, 6, 6)), ("poly", (2, 2, 4, 4))), False)

    def test_active_along_one_side_and_one_end(self):
        self.assertIs(formed(("active", (0, 0, 4, 3)), ("poly", (2, -1, 4, 2))), False)

    def test_active_along_a_part_of_an_end(self):
        self.assertIs(formed(*ACROSS), True)
        left, right = ("active", (0, 0, 4, 2)), ("active", (4, 0, 6, 1))
        self.assertIs(formed(left, right, ("poly", (2, -1, 4, 3))), False)
        self.assertIs(formed(left, ("active", (4, 1, 6, 2)), ("poly", (2, -1, 4, 3))), False)

    def test_active_along_a_part_of_a_side(self):
        bump = ("active", (3, 1, 4, 3))
        self.assertIs(formed(("active", (0, 0, 6, 2)), bump, ("poly", (2, 0, 4, 2))), False)
        # Under "poly" it would be a part of the channel; beside it, it does not matter.
        self.assertIs(formed(("active", (0, 0, 6, 2)), ("active", (4, 2, 6, 9)), ("poly", (2, 0, 4, 2))), True)

    def test_poly_beside_an_end(self):
        # The squares of the end are on "active", but "poly" touches the channel there.
        shapes = [("active", (0, 0, 6, 2)), ("poly", (2, -1, 4, 3)), ("poly", (4, 0, 5, 1))]
        self.assertIs(formed(*shapes), False)

    def test_no_box(self):
        shapes = [("active", (0, 0, 6, 2)), ("poly", (2, -1, 4, 3)), ("poly", (4, -1, 5, 1))]
        self.assertIs(formed(*shapes), False)
        # The lower row alone would be well formed.
        step = [("active", (0, 0, 9, 2)), ("poly", (2, 0, 4, 1)), ("poly", (2, 1, 5, 2))]
        self.assertIs(formed(*step), False)
        ring = [("active", (0, 0, 9, 9)), ("poly", (2, 2, 7, 3)), ("poly", (2, 6, 7, 7)), ("poly", (2, 2, 3, 7)),
                ("poly", (6, 2, 7, 7))]
        self.assertIs(formed(*ring), False)

    def test_well(self):
        for shapes in (ACROSS, UPRIGHT):
            channel = channels(Layout(shapes, []))[0][0]
            x0, y0, x1, y1 = channel
            self.assertIs(formed(*shapes, ("well", channel)), True)
            self.assertIs(formed(*shapes, ("well", (-9, -9, 19, 19))), True)
            self.assertIs(formed(*shapes, ("well", (x1, y0, x1 + 1, y1))), True)
            self.assertIs(formed(*shapes, ("well", (x0, y1, x1, y1 + 3))), True)
            self.assertIs(formed(*shapes, ("well", (x0, y0, x0 + 1, y0 + 1))), False)
            self.assertIs(formed(*shapes, ("well", (x1 - 1, y1 - 1, x1 + 9, y1 + 9))), False)

    def test_well_that_is_cut(self):
        parts = [("well", (2, 0, 3, 2)), ("well", (3, 0, 4, 1)), ("well", (3, 1, 4, 2))]
        self.assertIs(formed(*ACROSS, *parts), True)
        self.assertIs(formed(*ACROSS, *parts[:2]), False)

    def test_other_channels_nearby(self):
        shapes = [("active", (0, 0, 9, 2)), ("poly", (2, 0, 3, 2)), ("poly", (4, 0, 5, 2)), ("poly", (6, 0, 7, 2))]
        layout = Layout(shapes, [])
        self.assertEqual([is_well_formed(layout, channel) for channel in channels(layout)], [True, True, True])

    def test_turned(self):
        for shapes in crossings(10, seed=2):
            layout = Layout(shapes, [])
            for turn in range(TURN_COUNT):
                move = (turn, -HUGE, 5)
                for channel in channels(layout):
                    moved = is_well_formed(layout.moved(move), move_region(move, channel))
                    self.assertIs(moved, is_well_formed(layout, channel))


class Transistors(unittest.TestCase):
    def test_across(self):
        self.assertEqual(transistors(Layout(ACROSS, [])), [("n", 2, 0, 1, 2, 2)])
        wide = [("active", (0, 0, 20, 7)), ("poly", (2, -1, 5, 8))]
        self.assertEqual(transistors(Layout(wide, [])), [("n", 2, 0, 1, 7, 3)])

    def test_upright(self):
        self.assertEqual(transistors(Layout(UPRIGHT, [])), [("n", 2, 0, 1, 3, 1)])

    def test_on_well(self):
        self.assertEqual(transistors(Layout(ACROSS + [("well", (2, 0, 4, 2))], [])), [("p", 2, 0, 1, 2, 2)])
        self.assertEqual(transistors(Layout(UPRIGHT + [("well", (-5, -5, 20, 20))], [])), [("p", 2, 0, 1, 3, 1)])
        self.assertEqual(transistors(Layout(ACROSS + [("well", (4, 0, 6, 2))], [])), [("n", 2, 0, 1, 2, 2)])

    def test_the_smaller_end_stands_first(self):
        # The right end is joined with an earlier net, so it has the smaller number.
        for box, far in [((4, 0, 6, 2), (0, 0, 2, 2)), ((0, 0, 2, 2), (4, 0, 6, 2))]:
            link = [("metal", (box[0], -9, box[0] + 1, 1)), ("contact", (box[0], 0, box[0] + 1, 1)),
                    ("active", (box[0], -9, box[0] + 1, -8)), ("contact", (box[0], -9, box[0] + 1, -8))]
            layout = Layout(ACROSS + link, [])
            wiring = connect(layout)
            near, other = wiring.net_at("active", *box[:2]), wiring.net_at("active", *far[:2])
            self.assertLess(near, other)
            self.assertEqual(transistors(layout), [("n", wiring.net_at("poly", 2, 0), near, other, 2, 2)])

    def test_both_ends_on_one_net(self):
        bridge = [("metal", (0, 0, 6, 1)), ("contact", (0, 0, 1, 1)), ("contact", (5, 0, 6, 1))]
        self.assertEqual(transistors(Layout(ACROSS + bridge, [])), [("n", 1, 0, 0, 2, 2)])
        around = [("active", (0, 0, 2, 9)), ("active", (4, 0, 6, 9)), ("active", (0, 8, 6, 9))]
        self.assertEqual(transistors(Layout(ACROSS + around, [])), [("n", 1, 0, 0, 2, 2)])

    def test_gate_on_the_net_of_an_end(self):
        link = [("metal", (2, 0, 6, 1)), ("contact", (3, 0, 6, 1))]
        self.assertEqual(transistors(Layout(ACROSS + link, [])), [("n", 1, 0, 1, 2, 2)])

    def test_several(self):
        shapes = [("active", (0, 0, 9, 2)), ("poly", (2, -1, 3, 3)), ("poly", (5, -1, 7, 9)), ("well", (4, -3, 9, 9)),
                  ("active", (2, 6, 9, 7))]
        self.assertEqual(transistors(Layout(shapes, [])), [("n", 5, 0, 1, 2, 1), ("p", 6, 1, 2, 2, 2), ("p", 6, 3, 4, 1, 2)])

    def test_against_the_squares(self):
        for shapes in crossings(120, seed=3):
            layout = Layout(shapes, [])
            wiring = connect(layout)
            for part in channel_squares(shapes):
                if is_plainly_well_formed(shapes, part):
                    self.assertEqual(transistor(layout, wiring, region_of_squares(part)),
                                     self.plain_transistor(shapes, wiring, part))

    def plain_transistor(self, shapes, wiring, part):
        """Point 34, square by square."""
        active = on_layer(shapes, "active") - on_layer(shapes, "poly")
        ends = sorted({wiring.net_at("active", *place) for square in part for place in neighbours(*square)
                       if place in active})
        gate, = {wiring.net_at("poly", *square) for square in part}
        width_count = len([side for side in outer_squares(part) if side <= active][0])
        kind = "p" if part <= on_layer(shapes, "well") else "n"
        return (kind, gate, ends[0], ends[-1], width_count, len(part) // width_count)

    def test_shapes_cut_otherwise(self):
        source = random.Random(4)
        for _ in range(10):
            shapes = ACROSS + [("active", (10, 0, 16, 2)), ("poly", (11, -2, 13, 2)), ("well", (9, -9, 20, 9))]
            self.assertEqual(transistors(Layout(cut_shapes(source, shapes), [])), transistors(Layout(shapes, [])))

    def test_huge(self):
        move = (3, HUGE, -HUGE)
        shapes = [(layer, move_box(move, box)) for layer, box in ACROSS]
        self.assertEqual(transistors(Layout(shapes, [])), [("n", 2, 0, 1, 2, 2)])
        wide = [("active", (0, 0, 3 * HUGE, HUGE)), ("poly", (HUGE, -1, 2 * HUGE + 5, HUGE + 1))]
        self.assertEqual(transistors(Layout(wide, [])), [("n", 2, 0, 1, HUGE, HUGE + 5)])
        self.assertEqual(channels(Layout(wide, [])), [region_of([(HUGE, 0, 2 * HUGE + 5, HUGE)])])


if __name__ == "__main__":
    unittest.main()
