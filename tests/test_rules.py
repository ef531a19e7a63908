"""Points 24 to 27: rules, their marks, and their reach."""

import random
import unittest

from reticle.layouts import LAYERS, Layout
from reticle.regions import area, is_region, move_region
from reticle.rules import is_rule, marks, reach
from tests.helpers import HUGE, TURN_COUNT, cut_shapes, random_shapes, region_of_squares, squares_of
from tests.plain import marked_squares


def layout_of(**boxes):
    """A layout with a list of boxes for each of some layers."""
    return Layout([(layer, box) for layer, part in boxes.items() for box in part], [])


def layouts(count, layers, most=4, size=4, longest=4, seed=1):
    """The same lists of shapes on each call."""
    source = random.Random(seed)
    return [random_shapes(source, layers, most, size, longest) for _ in range(count)]


class IsRule(unittest.TestCase):
    def right(self, *rules):
        for rule in rules:
            self.assertIs(is_rule(rule), True, rule)

    def wrong(self, *rules):
        for rule in rules:
            self.assertIs(is_rule(rule), False, rule)

    def test_each_kind_on_each_layer(self):
        for layer in LAYERS:
            other = "via" if layer == "top" else "top"
            self.right(("width", layer, 2), ("space", layer, 3), ("area", layer, 4), ("size", layer, 5, 6))
            self.right(("apart", layer, other, 1), ("cover", other, layer, 1), ("never", layer, other))

    def test_unknown_layers(self):
        for layer in ["", "steel", "Metal", "metal ", "well1", "width"]:
            self.wrong(("width", layer, 2), ("space", layer, 3), ("area", layer, 4), ("size", layer, 5, 6))
            for kind in ("apart", "cover"):
                self.wrong((kind, layer, "metal", 1), (kind, "metal", layer, 1), (kind, layer, layer, 1))
            self.wrong(("never", layer, "metal"), ("never", "metal", layer), ("never", layer, layer))

    def test_numbers_from_one(self):
        for kind in ("width", "space", "area"):
            self.right((kind, "metal", 1), (kind, "metal", 1000))
            self.wrong((kind, "metal", 0), (kind, "metal", -1), (kind, "metal", 1001), (kind, "metal", HUGE),
                       (kind, "metal", -HUGE))

    def test_numbers_from_zero(self):
        for kind in ("apart", "cover"):
            self.right((kind, "metal", "top", 0), (kind, "metal", "top", 1), (kind, "metal", "top", 1000))
            self.wrong((kind, "metal", "top", -1), (kind, "metal", "top", 1001), (kind, "metal", "top", -HUGE))

    def test_width_and_height(self):
        self.right(("size", "via", 1, 1), ("size", "via", 1000, 1), ("size", "via", 1, 1000))
        for number in (0, -1, 1001, HUGE):
            self.wrong(("size", "via", number, 5), ("size", "via", 5, number), ("size", "via", number, number))

    def test_two_equal_layers(self):
        for layer in LAYERS:
            self.wrong(("apart", layer, layer, 1), ("cover", layer, layer, 1), ("never", layer, layer))


class Marks(unittest.TestCase):
    def agree(self, shapes, rule):
        found = marks(Layout(shapes, []), rule)
        self.assertEqual(found, region_of_squares(marked_squares(shapes, rule)), (shapes, rule))
        self.assertIs(is_region(found), True)

    def test_one_layer_against_the_squares(self):
        for shapes in layouts(60, ["metal"], most=7):
            for n in (1, 2, 3, 4):
                for kind in ("width", "space"):
                    self.agree(shapes, (kind, "metal", n))
                self.agree(shapes, ("area", "metal", 3 * n))
                self.agree(shapes, ("size", "metal", n, 2))

    def test_two_layers_against_the_squares(self):
        for shapes in layouts(50, ["metal", "via"], most=3):
            for n in (0, 1, 2, 3):
                for first, second in [("metal", "via"), ("via", "metal")]:
                    self.agree(shapes, ("apart", first, second, n))
                    self.agree(shapes, ("cover", first, second, n))
            self.agree(shapes, ("never", "metal", "via"))

    def test_other_layers_do_not_matter(self):
        for shapes in layouts(10, ["well", "metal", "poly"]):
            alone = [shape for shape in shapes if shape[0] == "metal"]
            for rule in [("width", "metal", 3), ("space", "metal", 3), ("area", "metal", 9), ("cover", "metal", "top", 1)]:
                self.assertEqual(marks(Layout(shapes, []), rule), marks(Layout(alone, []), rule))

    def test_empty_layers(self):
        empty, metal = layout_of(), layout_of(metal=[(0, 0, 3, 2)])
        for rule in [("width", "metal", 2), ("space", "metal", 2), ("area", "metal", 5), ("size", "metal", 1, 1),
                     ("apart", "metal", "top", 0), ("cover", "metal", "top", 2), ("never", "metal", "top")]:
            self.assertEqual(marks(empty, rule), ())
        whole = ((0, 0, 3, 2),)
        for n in (0, 1, 5):
            self.assertEqual(marks(metal, ("cover", "metal", "top", n)), whole)
            self.assertEqual(marks(metal, ("cover", "top", "metal", n)), ())
            self.assertEqual(marks(metal, ("apart", "metal", "top", n)), ())
            self.assertEqual(marks(metal, ("apart", "top", "metal", n)), ())
        self.assertEqual(marks(metal, ("never", "metal", "top")), ())
        self.assertEqual(marks(metal, ("never", "top", "metal")), ())


class MarksByHand(unittest.TestCase):
    def test_width_of_shapes_that_are_cut_and_overlap(self):
        for boxes in [[(0, 0, 4, 4)], [(0, 0, 1, 4), (1, 0, 4, 4)], [(0, 0, 3, 4), (1, 0, 4, 4)]]:
            self.assertEqual(marks(layout_of(poly=boxes), ("width", "poly", 4)), ())
            self.assertEqual(marks(layout_of(poly=boxes), ("width", "poly", 5)), ((0, 0, 4, 4),))

    def test_width_at_a_corner(self):
        squares = [(0, 0, 2, 2), (2, 2, 4, 4)]
        self.assertEqual(marks(layout_of(poly=squares), ("width", "poly", 2)), ())
        self.assertEqual(marks(layout_of(poly=squares), ("width", "poly", 3)), ((0, 0, 2, 2), (2, 2, 4, 4)))

    def test_space(self):
        near = layout_of(metal=[(0, 0, 2, 9), (4, 0, 6, 9)])
        self.assertEqual(marks(near, ("space", "metal", 2)), ())
        self.assertEqual(marks(near, ("space", "metal", 3)), ((2, 0, 4, 9),))

    def test_space_in_a_hole_and_at_a_corner(self):
        ring = layout_of(metal=[(0, 0, 7, 2), (0, 5, 7, 7), (0, 0, 2, 7), (5, 0, 7, 7)])
        self.assertEqual(marks(ring, ("space", "metal", 3)), ())
        self.assertEqual(marks(ring, ("space", "metal", 4)), ((2, 2, 5, 5),))
        corner = layout_of(metal=[(0, 0, 2, 2), (2, 2, 4, 4)])
        self.assertEqual(marks(corner, ("space", "metal", 9)), ())

    def test_apart_also_beside_corners(self):
        layout = layout_of(via=[(0, 0, 1, 1)], contact=[(2, 2, 4, 4)])
        self.assertEqual(marks(layout, ("apart", "via", "contact", 1)), ())
        self.assertEqual(marks(layout, ("apart", "via", "contact", 2)), ((0, 0, 1, 1),))
        self.assertEqual(marks(layout, ("apart", "contact", "via", 2)), ((2, 2, 3, 3),))

    def test_cover(self):
        layout = layout_of(via=[(2, 2, 4, 4)], metal=[(1, 1, 5, 5)])
        self.assertEqual(marks(layout, ("cover", "via", "metal", 0)), ())
        self.assertEqual(marks(layout, ("cover", "via", "metal", 1)), ())
        self.assertEqual(marks(layout, ("cover", "via", "metal", 2)), ((2, 2, 4, 4),))
        self.assertEqual(marks(layout, ("cover", "metal", "via", 0)),
                         ((1, 1, 5, 2), (1, 2, 2, 4), (4, 2, 5, 4), (1, 4, 5, 5)))

    def test_area_below_at_and_above(self):
        ring = [(0, 0, 3, 1), (0, 2, 3, 3), (0, 0, 1, 3), (2, 0, 3, 3)]
        layout = layout_of(top=ring + [(10, 0, 11, 7), (20, 0, 23, 3)])
        self.assertEqual(marks(layout, ("area", "top", 7)), ())
        self.assertEqual(marks(layout, ("area", "top", 8)), ((10, 0, 11, 7),))
        # The hole does not count.
        self.assertEqual(area(marks(layout, ("area", "top", 9))), 7 + 8)
        self.assertEqual(area(marks(layout, ("area", "top", 10))), 7 + 8 + 9)

    def test_area_of_pieces_that_meet_at_a_corner(self):
        layout = layout_of(top=[(0, 0, 2, 2), (2, 2, 4, 4)])
        self.assertEqual(marks(layout, ("area", "top", 5)), ((0, 0, 2, 2), (2, 2, 4, 4)))

    def test_size(self):
        boxes = [(0, 0, 2, 3), (10, 0, 13, 2), (20, 0, 22, 2), (30, 0, 33, 3)]
        layout = layout_of(contact=boxes)
        for rule in [("size", "contact", 2, 3), ("size", "contact", 3, 2)]:
            self.assertEqual(marks(layout, rule), region_of_squares(squares_of(boxes[2:])))
        self.assertEqual(marks(layout_of(contact=[(0, 0, 2, 1), (0, 1, 2, 3)]), ("size", "contact", 2, 3)), ())

    def test_size_of_pieces_that_are_no_boxes(self):
        ring = [(0, 0, 3, 1), (0, 2, 3, 3), (0, 0, 1, 3), (2, 0, 3, 3)]
        self.assertEqual(len(marks(layout_of(via=ring), ("size", "via", 3, 3))), 4)
        # Its lowest row has the size, but it goes on.
        step = [(0, 0, 2, 2), (0, 2, 1, 3)]
        self.assertEqual(marks(layout_of(via=step), ("size", "via", 2, 2)), ((0, 0, 2, 2), (0, 2, 1, 3)))

    def test_huge(self):
        layout = layout_of(metal=[(-HUGE, -HUGE, HUGE, HUGE), (HUGE + 5, 0, 2 * HUGE, 3)], via=[(0, 0, HUGE, HUGE)])
        strip = ((HUGE + 5, 0, 2 * HUGE, 3),)
        self.assertEqual(marks(layout, ("width", "metal", 4)), strip)
        self.assertEqual(marks(layout, ("space", "metal", 6)), ((HUGE, 0, HUGE + 5, 3),))
        self.assertEqual(marks(layout, ("space", "metal", 5)), ())
        self.assertEqual(marks(layout, ("area", "metal", 1000)), ())
        self.assertEqual(marks(layout, ("cover", "via", "metal", 1)),
                         ((HUGE - 1, 0, HUGE, HUGE - 1), (0, HUGE - 1, HUGE, HUGE)))
        self.assertEqual(marks(layout, ("never", "via", "metal")), ((0, 0, HUGE, HUGE),))


RULES = [
    ("width", "metal", 3), ("space", "metal", 3), ("apart", "metal", "via", 1), ("cover", "via", "metal", 1),
    ("area", "metal", 9), ("size", "via", 2, 3), ("never", "metal", "via"),
]


class WhatTheMarksDependOn(unittest.TestCase):
    def test_shapes_cut_and_ordered_otherwise_and_labels(self):
        source = random.Random(5)
        for shapes in layouts(30, ["metal", "via"], most=6):
            other = Layout(cut_shapes(source, shapes), [("a", "metal", 0, 0), ("b", "top", 3, 3)])
            for rule in RULES:
                self.assertEqual(marks(other, rule), marks(Layout(shapes, []), rule))

    def test_moved_layouts(self):
        for shapes in layouts(8, ["metal", "via"], most=6):
            layout = Layout(shapes, [])
            for turn in range(TURN_COUNT):
                move = (turn, 7 * turn - 20, HUGE)
                for rule in RULES:
                    self.assertEqual(marks(layout.moved(move), rule), move_region(move, marks(layout, rule)))


class Reach(unittest.TestCase):
    def test_each_kind(self):
        for n in (1, 2, 1000):
            self.assertEqual(reach(("width", "metal", n)), n - 1)
            self.assertEqual(reach(("space", "metal", n)), n - 1)
            self.assertEqual(reach(("apart", "metal", "top", n)), n)
            self.assertEqual(reach(("cover", "metal", "top", n)), n)
            self.assertIsNone(reach(("area", "metal", n)))
            self.assertIsNone(reach(("size", "metal", n, 3)))
        self.assertEqual(reach(("apart", "metal", "top", 0)), 0)
        self.assertEqual(reach(("cover", "metal", "top", 0)), 0)
        self.assertEqual(reach(("never", "metal", "top")), 0)


if __name__ == "__main__":
    unittest.main()
