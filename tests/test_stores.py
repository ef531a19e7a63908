"""Points 21 and 23: stores, undoing and redoing."""

import random
import unittest
from unittest import mock

from reticle.boxes import has_square, overlap
from reticle.errors import NothingToRedo, NothingToUndo, UnknownMark, UnknownShape
from reticle.layouts import LAYERS, Layout
from reticle.stores import Store
from tests.helpers import HUGE, random_box

BOX = (0, 0, 4, 1)

EVERYWHERE = (-HUGE, -HUGE, HUGE, HUGE)


class PlainStore:
    """The same store as a plain list of states: dicts from numbers to shapes."""

    def __init__(self):
        self.states = [{}]
        self.later = []
        self.next_number = 0

    def add(self, layer, box):
        self.change({**self.states[-1], self.next_number: (layer, box)})
        self.next_number += 1

    def remove(self, number):
        self.change({other: shape for other, shape in self.states[-1].items() if other != number})

    def change(self, state):
        self.states.append(state)
        self.later = []

    def undo(self):
        self.later.append(self.states.pop())

    def redo(self):
        self.states.append(self.later.pop())

    def back_to(self, mark):
        while len(self.states) - 1 > mark:
            self.undo()


class StoreCase(unittest.TestCase):
    def same(self, store, shapes):
        """The store answers everything as a look at each of the shapes does."""
        self.assertEqual(store.numbers(), sorted(shapes))
        self.assertEqual(len(store), len(shapes))
        for number, shape in shapes.items():
            self.assertEqual(store.shape(number), shape)
        for layer in LAYERS:
            expected = sorted(number for number, shape in shapes.items() if shape[0] == layer)
            self.assertEqual(store.find(layer, EVERYWHERE), expected)


class AddingAndRemoving(StoreCase):
    def test_example(self):
        store = Store()
        store.add("metal", (0, 0, 4, 1))
        store.add("metal", (6, 0, 9, 1))
        self.assertEqual(store.find("metal", (3, 0, 7, 2)), [0, 1])

    def test_empty(self):
        store = Store()
        self.same(store, {})
        self.assertEqual(store.mark, 0)
        self.assertEqual(store.layout(), Layout([], []))
        self.assertEqual(store.find_square("metal", 0, 0), [])

    def test_numbers(self):
        store = Store()
        self.assertEqual([store.add("metal", BOX), store.add("top", BOX), store.add("metal", BOX)], [0, 1, 2])
        self.same(store, {0: ("metal", BOX), 1: ("top", BOX), 2: ("metal", BOX)})

    def test_numbers_are_not_used_again_after_a_removal(self):
        store = Store()
        store.add("metal", BOX)
        store.add("metal", BOX)
        self.assertIsNone(store.remove(1))
        self.same(store, {0: ("metal", BOX)})
        self.assertEqual(store.add("metal", BOX), 2)

    def test_numbers_are_not_used_again_after_an_undo(self):
        store = Store()
        store.add("metal", BOX)
        store.add("top", BOX)
        store.undo()
        self.assertEqual(store.add("via", BOX), 2)
        self.same(store, {0: ("metal", BOX), 2: ("via", BOX)})
        with self.assertRaises(UnknownShape):
            store.shape(1)

    def test_layout(self):
        store = Store()
        for layer, box in [("metal", BOX), ("metal", (4, 0, 6, 1)), ("via", BOX)]:
            store.add(layer, box)
        self.assertEqual(store.layout(), Layout([("metal", (0, 0, 6, 1)), ("via", BOX)], []))
        store.remove(0)
        self.assertEqual(store.layout(), Layout([("metal", (4, 0, 6, 1)), ("via", BOX)], []))

    def test_new_lists_each_time(self):
        store = Store()
        store.add("metal", BOX)
        store.numbers().clear()
        store.find("metal", BOX).clear()
        self.same(store, {0: ("metal", BOX)})
        self.assertIsInstance(store.shape(0), tuple)


class UnknownShapes(StoreCase):
    def test_numbers_that_are_not_in_the_store(self):
        store = Store()
        store.add("metal", BOX)
        store.add("metal", BOX)
        store.add("top", BOX)
        store.remove(1)
        store.undo()
        store.undo()
        for number in (2, 3, -1, HUGE):
            for ask in (store.remove, store.shape):
                with self.assertRaises(UnknownShape) as caught:
                    ask(number)
                self.assertEqual(caught.exception.number, number)
        # Nothing changed: what was undone can still be redone.
        self.assertEqual(store.mark, 2)
        self.same(store, {0: ("metal", BOX), 1: ("metal", BOX)})
        store.redo()
        store.redo()
        self.same(store, {0: ("metal", BOX), 2: ("top", BOX)})
        with self.assertRaises(UnknownShape):
            store.remove(1)


class Finding(unittest.TestCase):
    def test_windows_that_touch(self):
        store = Store()
        store.add("metal", BOX)
        for window in [(4, 0, 5, 1), (-1, 0, 0, 1), (0, 1, 4, 2), (0, -1, 4, 0), (4, 1, 5, 2)]:
            self.assertEqual(store.find("metal", window), [])
        self.assertEqual(store.find("metal", (3, 0, 5, 1)), [0])
        self.assertEqual(store.find("top", (3, 0, 5, 1)), [])

    def test_many_shapes(self):
        source, store, shapes = random.Random(2), Store(), []
        for number in range(300):
            shapes.append((source.choice(LAYERS[:3]), random_box(source, 30, 8)))
            self.assertEqual(store.add(*shapes[-1]), number)
            window = random_box(source, 30, 20)
            expected = [at for at, (layer, box) in enumerate(shapes)
                        if layer == "poly" and overlap(box, window) is not None]
            self.assertEqual(store.find("poly", window), expected)
        for x in range(-30, 30, 4):
            expected = [at for at, (layer, box) in enumerate(shapes) if layer == "well" and has_square(box, x, 5)]
            self.assertEqual(store.find_square("well", x, 5), expected)

    def test_few_boxes_are_looked_at(self):
        store = Store()
        for at in range(1000):
            store.add("metal", (10 * at, 0, 10 * at + 5, 5))
        for number in range(0, 1000, 2):
            store.remove(number)
        store.find("metal", BOX)
        with mock.patch("reticle.trees.overlap", wraps=overlap) as tree_looks:
            with mock.patch("reticle.stores.overlap", wraps=overlap) as late_looks:
                for at in range(100):
                    self.assertEqual(store.find("metal", (20 * at, 0, 20 * at + 20, 5)), [2 * at + 1])
                    store.add("metal", (10 * at, 50, 10 * at + 5, 55))
        self.assertLess(tree_looks.call_count, 100 * 50)
        self.assertLess(late_looks.call_count, 100 * 100)

    def test_huge_coordinates(self):
        store = Store()
        store.add("via", (HUGE, -HUGE, HUGE + 2, -HUGE + 1))
        self.assertEqual(store.find_square("via", HUGE + 1, -HUGE), [0])
        self.assertEqual(store.find_square("via", HUGE + 2, -HUGE), [])


class Undoing(StoreCase):
    def test_example(self):
        with self.assertRaises(NothingToUndo):
            Store().undo()

    def test_adding_and_removing(self):
        store = Store()
        store.add("metal", BOX)
        store.add("top", BOX)
        store.remove(0)
        self.assertEqual(store.mark, 3)
        self.assertIsNone(store.undo())
        self.same(store, {0: ("metal", BOX), 1: ("top", BOX)})
        store.undo()
        self.same(store, {0: ("metal", BOX)})
        self.assertIsNone(store.redo())
        self.assertIsNone(store.redo())
        self.same(store, {1: ("top", BOX)})
        self.assertEqual(store.mark, 3)

    def test_nothing_left(self):
        store = Store()
        with self.assertRaises(NothingToRedo):
            store.redo()
        store.add("metal", BOX)
        with self.assertRaises(NothingToRedo):
            store.redo()
        store.undo()
        with self.assertRaises(NothingToUndo):
            store.undo()
        store.redo()
        self.same(store, {0: ("metal", BOX)})

    def test_nothing_to_redo_after_a_new_change(self):
        for change in ("add", "remove"):
            store = Store()
            store.add("metal", BOX)
            store.add("metal", BOX)
            store.undo()
            if change == "add":
                store.add("top", BOX)
            else:
                store.remove(0)
            with self.assertRaises(NothingToRedo):
                store.redo()

    def test_marks(self):
        store = Store()
        for at in range(5):
            self.assertEqual(store.mark, at)
            store.add("metal", (at, 0, at + 1, 1))
        self.assertIsNone(store.back_to(5))
        self.assertIsNone(store.back_to(2))
        self.assertEqual(store.mark, 2)
        self.assertEqual(store.numbers(), [0, 1])
        for _ in range(3):
            store.redo()
        self.assertEqual(store.numbers(), [0, 1, 2, 3, 4])
        store.back_to(0)
        self.same(store, {})

    def test_unknown_marks(self):
        store = Store()
        store.add("metal", BOX)
        store.add("metal", BOX)
        store.undo()
        for mark in (-1, 2, 3, -HUGE, HUGE):
            with self.assertRaises(UnknownMark):
                store.back_to(mark)
        self.assertEqual(store.mark, 1)
        store.redo()
        self.assertEqual(store.numbers(), [0, 1])

    def test_against_a_list_of_states(self):
        for seed in range(25):
            self.drawn_changes(random.Random(seed), 120)

    def drawn_changes(self, source, count):
        store, plain = Store(), PlainStore()
        for _ in range(count):
            self.one_change(source, store, plain)
            shapes = plain.states[-1]
            self.assertEqual(store.mark, len(plain.states) - 1)
            self.assertEqual(store.numbers(), sorted(shapes))
            window = random_box(source, 12, 9)
            for layer in LAYERS[:2]:
                expected = sorted(number for number, (other, box) in shapes.items()
                                  if other == layer and overlap(box, window) is not None)
                self.assertEqual(store.find(layer, window), expected)
        self.same(store, plain.states[-1])
        self.assertEqual(store.layout(), Layout(list(plain.states[-1].values()), []))

    def one_change(self, source, store, plain):
        choice = source.choice(["add", "add", "add", "remove", "undo", "undo", "redo", "redo", "back"])
        if choice == "add":
            layer, box = source.choice(LAYERS[:2]), random_box(source, 12, 5)
            self.assertEqual(store.add(layer, box), plain.next_number)
            plain.add(layer, box)
        elif choice == "remove" and plain.states[-1]:
            number = source.choice(sorted(plain.states[-1]))
            store.remove(number)
            plain.remove(number)
        elif choice == "undo" and len(plain.states) > 1:
            store.undo()
            plain.undo()
        elif choice == "redo" and plain.later:
            store.redo()
            plain.redo()
        elif choice == "back" and source.random() < 0.3:
            mark = source.randint(0, len(plain.states) - 1)
            store.back_to(mark)
            plain.back_to(mark)


if __name__ == "__main__":
    unittest.main()
