"""Points 13 and 14: layouts; points 5 and 17: moved layouts."""

import random
import unittest

from reticle.layouts import LAYERS, Layout, is_name
from reticle.moves import STAY, chain, inverse
from reticle.regions import region_of
from tests.helpers import HUGE, TURN_COUNT, cut_up, image_of_box, image_of_square, samples

LABELS = [("b", "metal", 4, 3), ("a", "top", 0, 0), ("a", "metal", 0, -5), ("a", "metal", 0, -5)]

BOXES = [(0, 0, 2, 2), (1, 1, 3, 3), (0, 0, 2, 2), (5, 0, 6, 9)]


def on_all_layers(boxes):
    """A list of shapes that has each box on each layer, the layers out of order."""
    return [(layer, box) for box in boxes for layer in reversed(LAYERS)]


class Layers(unittest.TestCase):
    def test_value(self):
        self.assertEqual(LAYERS, ("well", "active", "poly", "contact", "metal", "via", "top"))


class IsName(unittest.TestCase):
    def test_names(self):
        for name in ["a", "z", "a0", "bar", "vdd", "x9y8", "abcdefghijkl", "a12345678901"]:
            self.assertIs(is_name(name), True, name)

    def test_lengths(self):
        self.assertIs(is_name(""), False)
        self.assertIs(is_name("a" * 12), True)
        self.assertIs(is_name("a" * 13), False)

    def test_first_character(self):
        for name in ["0", "9a", "A", "_a", "-a", " a", "`", "{"]:
            self.assertIs(is_name(name), False, name)

    def test_other_characters(self):
        for name in ["aB", "a_b", "a-b", "a b", "a ", "a\n", "a.b", "a/", "a:", "a{", "a`"]:
            self.assertIs(is_name(name), False, name)


class MakingLayouts(unittest.TestCase):
    def test_each_layer_has_its_region(self):
        for layer in LAYERS:
            layout = Layout([(layer, box) for box in BOXES], [])
            for other in LAYERS:
                self.assertEqual(layout.region(other), region_of(BOXES) if other == layer else ())

    def test_regions_of_several_layers(self):
        layout = Layout([("top", (0, 0, 1, 1)), ("well", (3, 3, 4, 4)), ("top", (1, 0, 2, 1))], [])
        self.assertEqual(layout.region("top"), ((0, 0, 2, 1),))
        self.assertEqual(layout.region("well"), ((3, 3, 4, 4),))
        self.assertEqual(layout.region("metal"), ())

    def test_cut_otherwise(self):
        source = random.Random(3)
        for boxes in samples(30):
            layout = Layout(on_all_layers(boxes), [])
            for layer in LAYERS:
                other = Layout([(layer, box) for box in cut_up(source, boxes)], [])
                self.assertEqual(other.region(layer), layout.region(layer))

    def test_labels_ascend_once_each(self):
        expected = (("a", "metal", 0, -5), ("a", "top", 0, 0), ("b", "metal", 4, 3))
        self.assertEqual(Layout([], LABELS).labels, expected)
        self.assertEqual(Layout([], []).labels, ())
        several = [("a", "metal", 2, 0), ("a", "metal", 10, 0), ("a", "metal", -1, 5), ("a", "metal", -1, -HUGE)]
        self.assertEqual(Layout([], several).labels, tuple(sorted(several)))

    def test_lists_are_copied(self):
        shapes, labels = [("metal", (0, 0, 1, 1))], list(LABELS)
        layout = Layout(shapes, labels)
        self.assertEqual((shapes, labels), ([("metal", (0, 0, 1, 1))], LABELS))
        shapes.append(("metal", (5, 5, 6, 6)))
        labels.clear()
        self.assertEqual(layout.region("metal"), ((0, 0, 1, 1),))
        self.assertEqual(len(layout.labels), 3)
        layout.shapes().clear()
        self.assertEqual(layout.shapes(), [("metal", (0, 0, 1, 1))])


class Shapes(unittest.TestCase):
    def test_order(self):
        layout = Layout([("top", (0, 0, 1, 1)), ("metal", (0, 5, 1, 6)), ("metal", (0, 0, 1, 1)),
                         ("metal", (4, 0, 5, 1)), ("well", (9, 9, 10, 10))], [])
        self.assertEqual(layout.shapes(), [
            ("well", (9, 9, 10, 10)), ("metal", (0, 0, 1, 1)), ("metal", (4, 0, 5, 1)), ("metal", (0, 5, 1, 6)),
            ("top", (0, 0, 1, 1)),
        ])

    def test_makes_the_same_layout(self):
        for boxes in samples(30):
            layout = Layout(on_all_layers(boxes), LABELS)
            self.assertEqual(Layout(layout.shapes(), LABELS), layout)

    def test_empty(self):
        self.assertEqual(Layout([], LABELS).shapes(), [])


class Equality(unittest.TestCase):
    def test_same_squares_and_labels(self):
        source = random.Random(4)
        for boxes in samples(30):
            shapes = [("poly", box) for box in boxes] + [("via", (0, 0, 3, 3))]
            other = [("via", box) for box in cut_up(source, [(0, 0, 3, 3)])]
            other.extend([("poly", box) for box in cut_up(source, boxes)])
            self.assertIs(Layout(shapes, LABELS) == Layout(other, LABELS[::-1]), True)

    def test_one_square_differs(self):
        layout = Layout(on_all_layers(BOXES), LABELS)
        for layer in LAYERS:
            self.assertIs(Layout(on_all_layers(BOXES) + [(layer, (9, 9, 10, 10))], LABELS) == layout, False, layer)

    def test_one_label_differs(self):
        layout = Layout([], LABELS)
        self.assertIs(Layout([], LABELS[1:]) == layout, False)
        for changed in [("c", "metal", 4, 3), ("b", "top", 4, 3), ("b", "metal", 5, 3), ("b", "metal", 4, 4)]:
            self.assertIs(Layout([], LABELS[1:] + [changed]) == layout, False)

    def test_shapes_on_another_layer(self):
        self.assertIs(Layout([("metal", BOXES[0])], []) == Layout([("top", BOXES[0])], []), False)


class Moved(unittest.TestCase):
    def test_all_turns(self):
        layout = Layout([("metal", box) for box in BOXES] + [("well", (-4, -9, 0, -7))], LABELS)
        for turn in range(TURN_COUNT):
            move = (turn, 6, -HUGE)
            image = layout.moved(move)
            self.assertEqual(image.region("metal"), region_of([image_of_box(move, box) for box in BOXES]))
            self.assertEqual(image.region("well"), (image_of_box(move, (-4, -9, 0, -7)),))
            expected = sorted({(name, layer, *image_of_square(move, (x, y))) for name, layer, x, y in LABELS})
            self.assertEqual(image.labels, tuple(expected))

    def test_a_label_names_the_image_of_its_square(self):
        layout = Layout([("metal", (3, 5, 4, 6))], [("a", "metal", 3, 5)])
        for turn in range(TURN_COUNT):
            image = layout.moved((turn, 1, 2))
            self.assertEqual(image.labels, (("a", "metal", *image.region("metal")[0][:2]),))

    def test_twice(self):
        layout = Layout(on_all_layers(BOXES), LABELS)
        for first in range(TURN_COUNT):
            for second in range(TURN_COUNT):
                one, two = (first, 3, -8), (second, -5, 2)
                self.assertEqual(layout.moved(one).moved(two), layout.moved(chain(one, two)))
            self.assertEqual(layout.moved(one).moved(inverse(one)), layout)

    def test_stay(self):
        layout = Layout(on_all_layers(BOXES), LABELS)
        self.assertEqual(layout.moved(STAY), layout)
        self.assertIsNot(layout.moved(STAY), layout)

    def test_the_layout_stays(self):
        layout = Layout(on_all_layers(BOXES), LABELS)
        layout.moved((1, 5, 5))
        self.assertEqual(layout, Layout(on_all_layers(BOXES), LABELS))


if __name__ == "__main__":
    unittest.main()
