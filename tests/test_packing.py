"""Points 71 to 74: packing boxes and cells."""

import random
import unittest

from reticle.boxes import hull
from reticle.cells import Cell, Library
from reticle.comparing import are_same
from reticle.errors import Crowded, NotPackable, TooLarge, UnknownCell
from reticle.extracting import extract
from reticle.flattening import copies, flatten
from reticle.packing import are_near, is_before, pack, pack_cell, tight_chain
from tests.helpers import HUGE, TURN_COUNT, drawn, image_of_box, random_circuit

EXAMPLE = [(5, 0, 7, 2), (12, 1, 13, 5), (9, 4, 11, 6)]


def plainly_near(first, second, gap):
    """Whether a y of one box and a y of the other one differ by less than the gap and one."""
    return any(abs(y - other) <= gap for y in range(first[1], first[3]) for other in range(second[1], second[3]))


def crowded_pair(boxes, gap):
    """The smallest pair of indexes of near boxes neither of which is before the other, or None."""
    for first in range(len(boxes)):
        for second in range(first + 1, len(boxes)):
            one, other = boxes[first], boxes[second]
            if are_near(one, other, gap) and not is_before(one, other, gap) and not is_before(other, one, gap):
                return first, second
    return None


def plainly_packed(boxes, gap, wall):
    """Point 72, box by box."""
    packed = {}
    while len(packed) < len(boxes):
        for index, (x0, y0, x1, y1) in enumerate(boxes):
            before = [at for at, box in enumerate(boxes) if is_before(box, boxes[index], gap)]
            if index not in packed and all(at in packed for at in before):
                x = max([wall] + [packed[at][2] + gap for at in before])
                packed[index] = (x, y0, x + x1 - x0, y1)
    return [packed[index] for index in range(len(boxes))]


def scattered(source, count, size, gap):
    """Boxes that are not crowded."""
    boxes = []
    for _ in range(count):
        x, y = source.randint(-size, size), source.randint(-size, size)
        box = (x, y, x + source.randint(1, 5), y + source.randint(1, 5))
        if crowded_pair([*boxes, box], gap) is None:
            boxes.append(box)
    return boxes


class NearAndBefore(unittest.TestCase):
    def test_near_at_the_very_distance(self):
        for gap in (1, 2, 5):
            low = (0, 0, 1, 3)
            for y, expected in [(3 + gap, False), (2 + gap, True), (4 + gap, False), (0, True), (-gap, True),
                                (-gap - 1, False)]:
                box = (9, y, 10, y + 1)
                self.assertIs(are_near(low, box, gap), expected)
                self.assertIs(are_near(box, low, gap), expected)
            for y1, expected in [(-gap, False), (1 - gap, True), (-gap - 1, False)]:
                box = (9, y1 - 2, 10, y1)
                self.assertIs(are_near(low, box, gap), expected)
                self.assertIs(are_near(box, low, gap), expected)

    def test_near_does_not_depend_on_x(self):
        self.assertIs(are_near((0, 0, 1, 1), (HUGE, 0, HUGE + 1, 1), 1), True)
        self.assertIs(are_near((0, 0, 1, 1), (0, HUGE, 1, HUGE + 1), HUGE), True)
        self.assertIs(are_near((0, 0, 1, 1), (0, HUGE, 1, HUGE + 1), HUGE - 1), False)
        self.assertIs(are_near((0, 0, 1, 2), (0, HUGE, 1, HUGE + 1), HUGE - 1), True)

    def test_before_at_the_very_distance(self):
        for gap in (1, 2, 5):
            left = (0, 0, 3, 3)
            for x, expected in [(3 + gap, True), (2 + gap, False), (4 + gap, True), (0, False), (HUGE, True)]:
                self.assertIs(is_before(left, (x, 1, x + 1, 2), gap), expected)
                self.assertIs(is_before((x, 1, x + 1, 2), left, gap), False)

    def test_before_only_if_near(self):
        self.assertIs(is_before((0, 0, 1, 1), (9, 5, 10, 6), 4), False)
        self.assertIs(is_before((0, 0, 1, 1), (9, 5, 10, 6), 5), True)
        self.assertIs(is_before((0, 0, 1, 1), (9, 0, 10, 1), 8), True)
        self.assertIs(is_before((0, 0, 1, 1), (9, 0, 10, 1), 9), False)

    def test_against_the_lines(self):
        source = random.Random(1)
        for _ in range(500):
            first, second = [(0, y, 1, y + source.randint(1, 4)) for y in (source.randint(-5, 5), source.randint(-5, 5))]
            gap = source.randint(1, 4)
            self.assertIs(are_near(first, second, gap), plainly_near(first, second, gap))


class Pack(unittest.TestCase):
    def agree(self, boxes, gap, wall):
        copy = list(boxes)
        found = pack(boxes, gap=gap, wall=wall)
        self.assertEqual(found, plainly_packed(boxes, gap, wall))
        self.assertEqual(boxes, copy)
        self.assertIsNot(found, boxes)

    def test_example(self):
        self.assertEqual(pack(EXAMPLE, gap=1), [(0, 0, 2, 2), (3, 1, 4, 5), (0, 4, 2, 6)])

    def test_against_its_definition(self):
        source, sizes = random.Random(2), []
        for at in range(150):
            gap = source.choice([1, 1, 2, 4])
            boxes = scattered(source, source.randint(1, 25), source.choice([6, 12, 25]), gap)
            self.agree(boxes, gap, source.choice([0, 0, -7, 100, -HUGE]))
            sizes.append(len(boxes))
        self.assertGreater(max(sizes), 15)

    def test_no_boxes(self):
        self.assertEqual(pack([]), [])
        self.assertEqual(pack([], gap=5, wall=9), [])

    def test_one_and_wall_zero_if_nothing_is_said(self):
        self.assertEqual(pack([(7, 0, 9, 1), (20, 0, 21, 1)]), [(0, 0, 2, 1), (3, 0, 4, 1)])
        self.assertEqual(pack([(7, 0, 9, 1), (20, 1, 21, 2)]), [(0, 0, 2, 1), (3, 1, 4, 2)])
        self.assertEqual(pack([(7, 0, 9, 1), (20, 2, 21, 3)]), [(0, 0, 2, 1), (0, 2, 1, 3)])

    def test_walls(self):
        for wall in (0, 5, -5, HUGE, -HUGE):
            found = pack([(7, 0, 9, 1), (-3, 0, -1, 1)], wall=wall)
            self.assertEqual(found, [(wall + 3, 0, wall + 5, 1), (wall, 0, wall + 2, 1)])

    def test_boxes_of_one_size_below_each_other(self):
        boxes = [(at, 3 * at, at + 2, 3 * at + 2) for at in range(20)]
        self.assertEqual(pack(boxes), [(0, 3 * at, 2, 3 * at + 2) for at in range(20)])

    def test_a_stair(self):
        # Each box keeps the next one back, though no box is before all later ones.
        boxes = [(10 * at, at, 10 * at + 2, at + 2) for at in range(30)]
        self.assertEqual(pack(boxes), [(3 * at, at, 3 * at + 2, at + 2) for at in range(30)])
        self.assertEqual(pack(boxes[::-1]), pack(boxes)[::-1])

    def test_a_short_box_behind_a_long_one(self):
        # The upper box is packed behind the long one, also above where the short one ends.
        boxes = [(0, 0, 10, 9), (12, 0, 13, 2), (20, 7, 21, 9), (20, 0, 21, 1)]
        self.assertEqual(pack(boxes), [(0, 0, 10, 9), (11, 0, 12, 2), (11, 7, 12, 9), (13, 0, 14, 1)])

    def test_huge(self):
        boxes = [(HUGE, -HUGE, 2 * HUGE, HUGE), (3 * HUGE, 0, 4 * HUGE, 1), (-5 * HUGE, 5, -4 * HUGE, 6)]
        self.assertEqual(pack(boxes, gap=HUGE, wall=-HUGE), [
            (HUGE, -HUGE, 2 * HUGE, HUGE), (3 * HUGE, 0, 4 * HUGE, 1), (-HUGE, 5, 0, 6)])

    def test_many_boxes(self):
        boxes = [(10 * i, 3 * j, 10 * i + 4, 3 * j + 2) for i in range(60) for j in range(100)]
        self.assertEqual(pack(boxes), [(5 * i, 3 * j, 5 * i + 4, 3 * j + 2) for i in range(60) for j in range(100)])

    def test_keywords(self):
        with self.assertRaises(TypeError):
            pack(EXAMPLE, 1)
        with self.assertRaises(TypeError):
            tight_chain(EXAMPLE, 0, 1)


class CrowdedBoxes(unittest.TestCase):
    def crowded(self, boxes, pair, gap=1):
        copy = list(boxes)
        with self.assertRaises(Crowded) as caught:
            pack(boxes, gap=gap)
        self.assertIs(type(caught.exception), Crowded)
        self.assertEqual((caught.exception.first, caught.exception.second), pair)
        self.assertEqual(boxes, copy)

    def test_at_the_very_distance(self):
        for gap in (1, 2, 5):
            self.crowded([(0, 0, 1, 1), (gap, 0, gap + 1, 1)], (0, 1), gap)
            self.crowded([(0, 0, 1, 1), (0, gap, 1, gap + 1)], (0, 1), gap)
            self.crowded([(gap, gap, gap + 1, gap + 1), (0, 0, 1, 1)], (0, 1), gap)
            for box in [(gap + 1, 0, gap + 2, 1), (0, gap + 1, 1, gap + 2), (gap + 1, gap, gap + 2, gap + 1)]:
                self.assertEqual(len(pack([(0, 0, 1, 1), box], gap=gap)), 2)

    def test_equal_boxes(self):
        self.crowded([(0, 0, 1, 1)] * 2, (0, 1))
        self.crowded([(9, 9, 10, 10)] + [(0, 0, 1, 1)] * 3, (1, 2))

    def test_the_smallest_pair(self):
        boxes = [(0, 0, 1, 1), (10, 0, 11, 1), (20, 0, 21, 1), (10, 0, 12, 2), (0, 1, 1, 2)]
        self.crowded(boxes, (0, 4))
        self.crowded(boxes[1:], (0, 2))
        self.crowded([(50, 0, 51, 1), *boxes[::-1]], (1, 5))

    def test_against_all_pairs(self):
        source, found = random.Random(3), 0
        for _ in range(300):
            boxes, gap = [], source.randint(1, 3)
            for _ in range(source.randint(2, 20)):
                x, y = source.randint(0, 30), source.randint(0, 30)
                boxes.append((x, y, x + source.randint(1, 4), y + source.randint(1, 4)))
            pair = crowded_pair(boxes, gap)
            if pair is None:
                self.assertEqual(pack(boxes, gap=gap), plainly_packed(boxes, gap, 0))
            else:
                self.crowded(boxes, pair, gap)
                found += 1
        self.assertGreater(found, 100)

    def test_many_equal_boxes(self):
        self.crowded([(0, 0, 1, 1)] * 3000, (0, 1))


class TightChain(unittest.TestCase):
    def right(self, boxes, index, gap, wall):
        copy = list(boxes)
        found = tight_chain(boxes, index, gap=gap, wall=wall)
        self.assertEqual(boxes, copy)
        self.assertIsInstance(found, list)
        packed = pack(boxes, gap=gap, wall=wall)
        self.assertEqual(found[-1], index)
        self.assertEqual(packed[found[0]][0], wall)
        for at, following in zip(found, found[1:]):
            self.assertIs(are_near(boxes[at], boxes[following], gap), True)
            self.assertIs(is_before(boxes[at], boxes[following], gap), True)
            self.assertEqual(packed[at][2] + gap, packed[following][0])
        widths = [boxes[at][2] - boxes[at][0] for at in found[:-1]]
        self.assertEqual(packed[index][0], wall + sum(widths) + gap * len(widths))
        return found

    def test_by_hand(self):
        self.assertEqual(self.right(EXAMPLE, 0, 1, 0), [0])
        self.assertEqual(self.right(EXAMPLE, 2, 1, 0), [2])
        self.assertIn(self.right(EXAMPLE, 1, 1, 0), [[0, 1], [2, 1]])

    def test_one_and_wall_zero_if_nothing_is_said(self):
        # At the gap of 2 the lower boxes are near the others, too, and the last one rests on them.
        boxes = [(0, 0, 2, 1), (9, 0, 10, 1), (-9, 2, -4, 3), (20, 1, 21, 2), (30, 4, 31, 5), (40, 6, 41, 7)]
        self.assertEqual(tight_chain(boxes, 5), self.right(boxes, 5, 1, 0))
        self.assertEqual([tight_chain(boxes, index) for index in range(6)],
                         [self.right(boxes, index, 1, 0) for index in range(6)])
        self.assertNotEqual([tight_chain(boxes, index, gap=2) for index in range(6)],
                            [tight_chain(boxes, index) for index in range(6)])

    def test_random_ones(self):
        source, lengths = random.Random(4), []
        for _ in range(60):
            gap, wall = source.choice([1, 1, 2, 3]), source.choice([0, 13, -HUGE])
            boxes = scattered(source, 25, source.choice([6, 15, 25]), gap)
            lengths.extend(len(self.right(boxes, index, gap, wall)) for index in range(len(boxes)))
        self.assertGreater(max(lengths), 4)

    def test_a_stair(self):
        boxes = [(10 * at, at, 10 * at + 2, at + 2) for at in range(30)]
        self.assertEqual(self.right(boxes, 29, 1, 5), list(range(30)))

    def test_only_boxes_that_are_near_count(self):
        # Boxes of the same width at the same place, most of which are too far above or below.
        boxes = [(0, 10 * at, 2, 10 * at + 2) for at in range(9)] + [(50, 40, 51, 42), (60, 10, 61, 12)]
        self.assertEqual(self.right(boxes, 9, 1, 0), [4, 9])
        self.assertEqual(self.right(boxes, 10, 1, 0), [1, 10])

    def test_huge(self):
        boxes = [(HUGE, 0, 2 * HUGE, 1), (-HUGE, 0, 0, 1), (5 * HUGE, 0, 5 * HUGE + 1, 1)]
        self.assertEqual(self.right(boxes, 2, 7, HUGE), [1, 0, 2])


def frames(library, name):
    """The hulls of the copies of a cell, in order."""
    found = []
    for placement in library.cell(name).placements:
        shapes = flatten(library, placement[0]).shapes()
        found.extend(hull([image_of_box(move, box) for _, box in shapes]) for move in copies(placement))
    return found


BAR = Cell("bar", [("metal", (0, 0, 4, 1)), ("top", (1, 0, 2, 3))], [("a", "top", 1, 2)], [])


class PackCell(unittest.TestCase):
    def right(self, library, name, gap=1):
        packed = pack_cell(library, name, gap=gap)
        self.assertIsInstance(packed, Cell)
        self.assertEqual((packed.name, packed.shapes, packed.labels), (name, (), ()))
        moves = [(placement[0], move) for placement in library.cell(name).placements for move in copies(placement)]
        old, new = frames(library, name), pack(frames(library, name), gap=gap)
        expected = [(inner, (turn, dx + after[0] - before[0], dy), 1, 1, 0, 0)
                    for (inner, (turn, dx, dy)), before, after in zip(moves, old, new)]
        self.assertEqual(packed.placements, tuple(expected))
        below = [library.cell(other) for other in library.cell_names if other != name]
        after = Library([*below, packed])
        self.assertEqual(frames(after, name), new)
        return after

    def test_by_hand(self):
        top = Cell("top", [], [], [("bar", (1, 50, 0), 2, 1, 20, 0), ("bar", (0, 100, 9), 1, 1, 0, 0)])
        packed = pack_cell(Library([BAR, top]), "top")
        # Turned by a quarter, the bar reaches from three squares left of the place that it is moved to up to there.
        self.assertEqual(packed.placements, (
            ("bar", (1, 3, 0), 1, 1, 0, 0), ("bar", (1, 7, 0), 1, 1, 0, 0), ("bar", (0, 0, 9), 1, 1, 0, 0)))
        self.right(Library([BAR, top]), "top")

    def test_turned_and_mirrored_copies_in_order(self):
        for turn in range(TURN_COUNT):
            top = Cell("top", [], [], [("bar", (turn, 9, -4), 3, 4, 17, -11), ("bar", ((turn + 3) % 8, 99, 0), 2, 2, -30, 19)])
            for gap in (1, 2, 5):
                self.right(Library([BAR, top]), "top", gap)

    def test_nested_cells(self):
        row = Cell("row", [], [], [("bar", (0, 0, 0), 2, 1, 9, 0)])
        both = Cell("both", [("poly", (0, 10, 1, 12))], [], [("row", (3, 5, 7), 1, 1, 0, 0)])
        top = Cell("top", [], [], [("both", (0, 0, 0), 3, 2, 40, 50), ("row", (4, -200, 0), 1, 2, 0, 33)])
        self.right(Library([BAR, row, both, top]), "top", 2)

    def test_without_copies(self):
        packed = pack_cell(Library([Cell("top", [], [], [])]), "top")
        self.assertEqual((packed.name, packed.shapes, packed.labels, packed.placements), ("top", (), (), ()))

    def test_the_same_circuit(self):
        source = random.Random(5)
        for _ in range(20):
            cells, placements = [], []
            for at in range(source.randint(1, 3)):
                circuit = random_circuit(source, source.randint(1, 3), source.randint(0, 3))
                shapes, labels = drawn(circuit)
                cells.append(Cell(f"c{at}", shapes, [(f"{name}{at}", *rest) for name, *rest in labels], []))
                placements.append((f"c{at}", (source.randrange(8), 1000 * at, 1000 * at), source.randint(1, 2), 1, 400, 0))
            library = Library([*cells, Cell("top", [], [], placements)])
            before, after = flatten(library, "top"), flatten(self.right(library, "top"), "top")
            self.assertIs(are_same(extract(before), extract(after)), True)

    def test_nothing_is_changed(self):
        top = Cell("top", [], [], [("bar", (0, 30, 0), 1, 1, 0, 0)])
        library = Library([BAR, top])
        pack_cell(library, "top")
        self.assertEqual(library.cell("top").placements, (("bar", (0, 30, 0), 1, 1, 0, 0),))
        self.assertIs(library.cell("top"), top)

    def test_many_copies(self):
        dot = Cell("dot", [("metal", (0, 0, 1, 1))], [], [])
        top = Cell("top", [], [], [("dot", (0, 0, 0), 100, 100, 3, 2)])
        packed = pack_cell(Library([dot, top]), "top")
        self.assertEqual(packed.placements[:2], (("dot", (0, 0, 0), 1, 1, 0, 0), ("dot", (0, 2, 0), 1, 1, 0, 0)))
        self.assertEqual(len(packed.placements), 10000)

    def test_huge(self):
        top = Cell("top", [], [], [("bar", (2, HUGE, -HUGE), 2, 2, 10 * HUGE, HUGE)])
        self.right(Library([BAR, top]), "top")


class PackCellErrors(unittest.TestCase):
    def raised(self, error_class, cells, name="top", **more):
        with self.assertRaises(error_class) as caught:
            pack_cell(Library(cells), name, **more)
        self.assertIs(type(caught.exception), error_class)
        return caught.exception

    def test_unknown_cell(self):
        self.assertEqual(self.raised(UnknownCell, [BAR]).name, "top")
        self.assertEqual(self.raised(UnknownCell, []).name, "top")

    def test_too_large(self):
        # Also with shapes of its own, copies without shapes, and crowded copies.
        none = Cell("none", [], [], [])
        row = Cell("row", [], [], [("bar", (0, 0, 0), 100, 50, 0, 0)])
        for cells in [[BAR, none, row, Cell("top", [], [], [("none", (0, 0, 0), 1, 1, 0, 0), ("row", (0, 0, 0), 2, 1, 0, 0)])],
                      [BAR, Cell("top", [("metal", (0, 0, 1, 1))], [], [("bar", (0, 0, 0), 100, 50, 0, 0)])]]:
            self.assertEqual(self.raised(TooLarge, cells).limit, 10000)
        named = Cell("named", [("metal", (0, 0, 1, 1))], [("a", "metal", 0, 0), ("b", "metal", 0, 0)], [])
        cells = [named, Cell("top", [], [("c", "metal", 0, 0)], [("named", (0, 0, 0), 100, 50, 9, 9)])]
        self.assertEqual(self.raised(TooLarge, cells).limit, 10000)

    def test_shapes_and_labels_of_its_own(self):
        crowded = [("bar", (0, 0, 0), 1, 1, 0, 0), ("bar", (0, 0, 0), 1, 1, 0, 0)]
        self.raised(NotPackable, [BAR, Cell("top", [("well", (0, 0, 1, 1))], [], [])])
        self.raised(NotPackable, [BAR, Cell("top", [], [("a", "top", 0, 0)], [])])
        self.raised(NotPackable, [BAR, Cell("top", [("well", (0, 0, 1, 1))], [], crowded)])
        self.raised(NotPackable, [BAR], "bar")

    def test_copies_without_shapes(self):
        none, named = Cell("none", [], [], []), Cell("named", [], [("a", "metal", 0, 0)], [])
        for name in ("none", "named"):
            self.raised(NotPackable, [none, named, Cell("top", [], [], [(name, (0, 0, 0), 1, 1, 0, 0)])])
            self.raised(NotPackable, [BAR, none, named, Cell("top", [], [], [
                ("bar", (0, 0, 0), 2, 1, 1, 0), (name, (0, 0, 0), 10, 10, 0, 0)])])

    def test_many_copies_without_shapes(self):
        cells = [Cell("c0", [], [], [])]
        cells.extend(Cell(f"c{at}", [], [], [(f"c{at - 1}", (0, 0, 0), 100, 100, 0, 0)]) for at in range(1, 60))
        self.raised(NotPackable, cells, "c59")

    def test_labels_outside_of_the_hull(self):
        for x, y in [(4, 0), (0, 3), (-1, 0), (0, -1), (HUGE, 0)]:
            far = Cell("far", [("metal", (0, 0, 4, 1)), ("top", (1, 0, 2, 3))], [("a", "top", x, y)], [])
            self.raised(NotPackable, [far, Cell("top", [], [], [("far", (1, 5, 5), 1, 1, 0, 0)])])
            self.raised(NotPackable, [BAR, far, Cell("top", [], [], [
                ("bar", (0, 0, 0), 2, 1, 0, 0), ("far", (1, 5, 5), 1, 1, 0, 0)])])
            # In a cell of the copy.
            outer = Cell("outer", [], [], [("far", (0, 0, 0), 1, 1, 0, 0)])
            self.raised(NotPackable, [far, outer, Cell("top", [], [], [("outer", (0, 0, 0), 1, 1, 0, 0)])])
        # In a corner of the hull without a shape, or in a hull that other shapes of the copy make larger.
        near = Cell("near", [("metal", (0, 0, 4, 1)), ("top", (1, 0, 2, 3))], [("a", "top", 3, 2)], [])
        top = Cell("top", [], [], [("near", (0, 0, 0), 1, 1, 0, 0)])
        self.assertEqual(pack_cell(Library([near, top]), "top").placements, top.placements)

    def test_crowded(self):
        top = Cell("top", [], [], [("bar", (0, 0, 0), 3, 1, 10, 0), ("bar", (0, 25, 2), 1, 1, 0, 0)])
        error = self.raised(Crowded, [BAR, top], gap=3)
        self.assertEqual((error.first, error.second), (2, 3))
        error = self.raised(Crowded, [BAR, top], gap=7)
        self.assertEqual((error.first, error.second), (0, 1))
        with self.assertRaises(TypeError):
            pack_cell(Library([BAR, top]), "top", 3)


if __name__ == "__main__":
    unittest.main()
