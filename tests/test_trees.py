"""Point 22: trees."""

import random
import unittest
from unittest import mock

from reticle.boxes import overlap
from reticle.trees import Tree
from tests.helpers import HUGE, random_box

COUNTS = [0, 1, 2, 7, 8, 9, 15, 16, 17, 31, 32, 33, 63, 64, 65, 200]


def random_rows(count, seed):
    """Rows with different numbers that are not in order."""
    source = random.Random(seed)
    numbers = source.sample(range(10 * count + 1), count)
    return [(number, random_box(source, 40, 9)) for number in numbers]


def looked_at(rows, window):
    """The numbers that a look at each box finds."""
    return sorted(number for number, box in rows if overlap(box, window) is not None)


class Find(unittest.TestCase):
    def test_against_a_look_at_each_box(self):
        source = random.Random(6)
        for count in COUNTS:
            rows = random_rows(count, count)
            tree = Tree(rows)
            for _ in range(40):
                window = random_box(source, 50, source.choice([1, 10, 60]))
                found = tree.find(window)
                self.assertIsInstance(found, list)
                self.assertEqual(found, looked_at(rows, window))
            self.assertEqual(tree.find((-99, -99, 99, 99)), sorted(number for number, _ in rows))
            self.assertEqual(tree.find((500, 500, 501, 501)), [])

    def test_windows_that_touch(self):
        rows = [(at, (10 * at, 0, 10 * at + 5, 5)) for at in range(30)]
        tree = Tree(rows)
        for at in range(30):
            self.assertEqual(tree.find((10 * at + 5, 0, 10 * at + 10, 5)), [])
            self.assertEqual(tree.find((10 * at - 5, 0, 10 * at, 5)), [])
            self.assertEqual(tree.find((10 * at, 5, 10 * at + 5, 6)), [])
            self.assertEqual(tree.find((10 * at, -1, 10 * at + 5, 0)), [])
            self.assertEqual(tree.find((10 * at + 4, 4, 10 * at + 6, 9)), [at])

    def test_equal_boxes(self):
        rows = [(at, (0, 0, 1, 1)) for at in range(50)]
        self.assertEqual(Tree(rows).find((0, 0, 1, 1)), list(range(50)))
        self.assertEqual(Tree(rows).find((1, 0, 2, 1)), [])

    def test_huge_coordinates(self):
        rows = [(at, (at * HUGE, -HUGE, at * HUGE + 1, HUGE)) for at in range(40)]
        self.assertEqual(Tree(rows).find((7 * HUGE, 0, 9 * HUGE, 1)), [7, 8])

    def test_new_list_each_time(self):
        tree = Tree([(3, (0, 0, 1, 1))])
        tree.find((0, 0, 1, 1)).clear()
        self.assertEqual(tree.find((0, 0, 1, 1)), [3])

    def test_the_list_stays(self):
        for count in (3, 40):
            rows = random_rows(count, 9)
            given = list(rows)
            tree = Tree(given)
            self.assertEqual(given, rows)
            given.clear()
            self.assertEqual(tree.find((-99, -99, 99, 99)), sorted(number for number, _ in rows))


class Looks(unittest.TestCase):
    def test_few_boxes_are_looked_at(self):
        rows = [(32 * x + y, (10 * x, 10 * y, 10 * x + 9, 10 * y + 9)) for x in range(32) for y in range(32)]
        random.Random(1).shuffle(rows)
        tree = Tree(rows)
        with mock.patch("reticle.trees.overlap", wraps=overlap) as looks:
            for x in range(32):
                self.assertEqual(tree.find((10 * x, 10 * x, 10 * x + 5, 10 * x + 5)), [33 * x])
        self.assertLess(looks.call_count, 32 * 40)

    def test_parts_of_nodes(self):
        for count in COUNTS:
            nodes = [(Tree(random_rows(count, 2)), count)]
            while nodes:
                node, size = nodes.pop()
                parts = node._parts
                self.assertEqual(len(node._rows), 0 if parts else size)
                self.assertEqual(len(parts), 2 if size > 8 else 0)
                sizes = [size // 2, size - size // 2]
                self.assertEqual(sorted(len(part.find((-99, -99, 99, 99))) for part in parts), sizes if parts else [])
                nodes.extend((part, len(part.find((-99, -99, 99, 99)))) for part in parts)


class Depth(unittest.TestCase):
    def test_smallest_number_of_leaves(self):
        for count in range(140):
            depth = 0
            while count > 8 * 2 ** depth:
                depth += 1
            self.assertEqual(Tree(random_rows(count, 1)).depth(), depth, count)

    def test_equal_boxes(self):
        self.assertEqual(Tree([(at, (0, 0, 1, 1)) for at in range(1025)]).depth(), 8)


if __name__ == "__main__":
    unittest.main()
