"""Points 25 to 27: checks of decks, and rechecking."""

import random
import unittest

from reticle.boxes import has_square
from reticle.checking import check, is_kept, marked_at, recheck
from reticle.errors import InvalidRule
from reticle.layouts import Layout
from reticle.regions import area, move_region, union
from reticle.rules import marks
from tests.helpers import HUGE, TURN_COUNT, cut_shapes, random_box, random_shapes, squares_of

EXAMPLE = Layout([("metal", (0, 0, 4, 2)), ("metal", (0, 2, 1, 5))], [])

DECK = [
    ("space", "metal", 3), ("width", "metal", 2), ("apart", "via", "metal", 1), ("cover", "via", "metal", 1),
    ("area", "metal", 12), ("size", "via", 2, 1), ("never", "via", "metal"), ("width", "metal", 2),
]

WRONG_RULES = [
    ("width", "steel", 2), ("space", "metal", 0), ("apart", "metal", "metal", 1), ("cover", "metal", "top", -1),
    ("area", "metal", 1001), ("size", "via", 3, 0), ("never", "top", "top"),
]


class Check(unittest.TestCase):
    def test_example(self):
        self.assertEqual(check(EXAMPLE, [("width", "metal", 2), ("area", "metal", 12)]),
                         [((0, 2, 1, 5),), ((0, 0, 4, 2), (0, 2, 1, 5))])

    def test_one_region_for_each_rule_in_order(self):
        source = random.Random(1)
        for _ in range(20):
            layout = Layout(random_shapes(source, ["metal", "via"]), [])
            self.assertEqual(check(layout, DECK), [marks(layout, rule) for rule in DECK])
            self.assertEqual(check(layout, DECK[::-1]), check(layout, DECK)[::-1])

    def test_empty_deck(self):
        self.assertEqual(check(EXAMPLE, []), [])
        self.assertEqual(marked_at(EXAMPLE, [], 0, 0), [])
        self.assertIs(is_kept(EXAMPLE, []), True)
        self.assertEqual(recheck(EXAMPLE, [], [], window=(0, 0, 1, 1)), [])

    def test_new_lists_and_nothing_changed(self):
        deck = list(DECK)
        found = check(EXAMPLE, deck)
        old = list(found)
        self.assertIsInstance(found, list)
        recheck(EXAMPLE, deck, found, window=(0, 0, 2, 2))
        marked_at(EXAMPLE, deck, 0, 0)
        is_kept(EXAMPLE, deck)
        self.assertEqual([deck, found], [DECK, old])
        found.append("x")
        self.assertEqual(check(EXAMPLE, deck), old)
        self.assertEqual(EXAMPLE, Layout([("metal", (0, 0, 4, 2)), ("metal", (0, 2, 1, 5))], []))

    def test_cut_otherwise_and_moved(self):
        source = random.Random(2)
        for turn in range(TURN_COUNT):
            shapes = random_shapes(source, ["metal", "via"])
            layout, move = Layout(shapes, []), (turn, HUGE, -3)
            self.assertEqual(check(Layout(cut_shapes(source, shapes), []), DECK), check(layout, DECK))
            moved = [move_region(move, region) for region in check(layout, DECK)]
            self.assertEqual(check(layout.moved(move), DECK), moved)


class IsKept(unittest.TestCase):
    def test_by_hand(self):
        self.assertIs(is_kept(EXAMPLE, [("width", "metal", 1), ("area", "metal", 11)]), True)
        self.assertIs(is_kept(EXAMPLE, [("width", "metal", 1), ("area", "metal", 12)]), False)
        self.assertIs(is_kept(EXAMPLE, [("width", "metal", 2), ("area", "metal", 11)]), False)
        self.assertIs(is_kept(Layout([], []), DECK), True)

    def test_exactly_if_no_square_is_marked(self):
        source = random.Random(3)
        answers = []
        for _ in range(40):
            layout = Layout(random_shapes(source, ["metal", "via"], most=2, size=8), [])
            deck = source.sample(DECK, 2)
            is_marked = any(marked_at(layout, deck, x, y) for x in range(-10, 14) for y in range(-10, 14))
            self.assertIs(is_kept(layout, deck), not is_marked)
            answers.append(is_marked)
        self.assertEqual(sorted(set(answers)), [False, True])


class MarkedAt(unittest.TestCase):
    def test_squares_in_and_around_the_shapes(self):
        source = random.Random(4)
        for _ in range(4):
            layout = Layout(random_shapes(source, ["metal", "via"]), [])
            marked = [squares_of(region) for region in check(layout, DECK)]
            for x in range(-9, 13):
                for y in range(-9, 13):
                    expected = [index for index, squares in enumerate(marked) if (x, y) in squares]
                    self.assertEqual(marked_at(layout, DECK, x, y), expected)

    def test_by_hand(self):
        deck = [("width", "metal", 2), ("never", "metal", "top"), ("area", "metal", 12), ("width", "metal", 3)]
        self.assertEqual(marked_at(EXAMPLE, deck, 0, 3), [0, 2, 3])
        self.assertEqual(marked_at(EXAMPLE, deck, 3, 1), [2, 3])
        self.assertEqual(marked_at(EXAMPLE, deck, 4, 1), [])
        self.assertEqual(marked_at(EXAMPLE, deck, HUGE, -HUGE), [])


class WrongRules(unittest.TestCase):
    def refused(self, deck, index):
        calls = [
            lambda: check(EXAMPLE, deck), lambda: is_kept(EXAMPLE, deck), lambda: marked_at(EXAMPLE, deck, 0, 0),
            lambda: recheck(EXAMPLE, deck, [()] * len(deck), window=(0, 0, 1, 1)),
        ]
        for call in calls:
            copy = list(deck)
            with self.assertRaises(InvalidRule) as caught:
                call()
            self.assertIs(type(caught.exception), InvalidRule)
            self.assertEqual(caught.exception.index, index)
            self.assertEqual(deck, copy)

    def test_example(self):
        deck = [("width", "metal", 2), ("width", "steel", 2)]
        self.refused(deck, 1)
        with self.assertRaises(InvalidRule):
            check(Layout([], []), deck)

    def test_each_kind(self):
        for rule in WRONG_RULES:
            self.refused([rule], 0)
            self.refused(DECK + [rule], len(DECK))

    def test_the_first_one(self):
        self.refused([DECK[0], WRONG_RULES[3], DECK[1], WRONG_RULES[0]], 1)

    def test_also_behind_a_rule_that_is_not_kept(self):
        self.refused([("width", "metal", 1000), ("never", "metal", "metal")], 1)


class Recheck(unittest.TestCase):
    def deck(self, n):
        return [
            ("width", "metal", n + 1), ("space", "metal", n + 1), ("apart", "metal", "via", n),
            ("apart", "via", "metal", n), ("cover", "via", "metal", n), ("cover", "metal", "via", n),
            ("area", "metal", 4 * n + 2), ("size", "via", 2, 2), ("never", "metal", "via"),
        ]

    def agree(self, old_shapes, new_shapes, window):
        for n in (0, 1, 2, 3):
            old, new = Layout(old_shapes, []), Layout(new_shapes, [])
            found = check(old, self.deck(n))
            self.assertEqual(recheck(new, self.deck(n), found, window=window), check(new, self.deck(n)))

    def test_shapes_added_and_taken_away(self):
        source = random.Random(6)
        for _ in range(25):
            shapes = random_shapes(source, ["metal", "via"], most=6, size=8)
            # At the border, inside and outside of the shapes.
            window = random_box(source, 10, 5)
            inside = [(layer, box) for layer, box in random_shapes(source, ["metal", "via"], 3, 8)
                      if all(has_square(window, x, y) for x, y in squares_of([box]))]
            inside.append((source.choice(["metal", "via"]), window))
            self.agree(shapes, shapes + inside, window)
            self.agree(shapes + inside, shapes, window)
            kept = [(layer, (x, y, x + 1, y + 1)) for layer, box in shapes for x, y in squares_of([box])
                    if not has_square(window, x, y)]
            self.agree(shapes, kept, window)
            self.agree(kept, shapes, window)

    def test_nothing_changed(self):
        source = random.Random(7)
        for _ in range(10):
            shapes = random_shapes(source, ["metal", "via"], most=6)
            self.agree(shapes, shapes, random_box(source, 12, 6))

    def test_from_and_to_the_empty_layout(self):
        for shapes in [[("metal", (0, 0, 4, 2)), ("via", (1, 0, 2, 1))], [("via", (0, 0, 2, 2))]]:
            self.agree([], shapes, (-1, -1, 5, 5))
            self.agree(shapes, [], (0, 0, 4, 2))

    def test_far_reaching_pieces(self):
        # What is added far away changes which squares of a long piece are marked.
        line = [("metal", (0, 0, 100, 1))]
        deck = [("area", "metal", 101), ("size", "metal", 100, 1)]
        self.assertEqual(check(Layout(line, []), deck), [((0, 0, 100, 1),), ()])
        longer = Layout(line + [("metal", (100, 0, 101, 1))], [])
        found = recheck(longer, deck, [((0, 0, 100, 1),), ()], window=(100, 0, 101, 1))
        self.assertEqual(found, [(), ((0, 0, 101, 1),)])

    def test_marks_far_from_the_window_are_taken_over(self):
        # Point 27: outside of the spread box the old marks count, within it the squares of the layout.
        layout = Layout([("metal", (0, 0, 9, 1)), ("metal", (100, 0, 109, 1))], [])
        old = union(((0, 0, 9, 1),), ((50, 0, 51, 1),))
        found = recheck(layout, [("width", "metal", 3)], [old], window=(100, 0, 101, 1))
        self.assertEqual(found, [((0, 0, 9, 1), (50, 0, 51, 1), (100, 0, 103, 1))])

    def test_huge(self):
        far = [("metal", (HUGE, 0, 2 * HUGE, 2)), ("metal", (HUGE, 3, 2 * HUGE, HUGE))]
        self.agree(far, far + [("metal", (HUGE + 5, 2, HUGE + 6, 3))], (HUGE, 2, HUGE + 10, 3))
        self.agree([], far, (HUGE - 1, -HUGE, 3 * HUGE, HUGE))

    def test_the_window_is_passed_by_keyword(self):
        with self.assertRaises(TypeError):
            recheck(EXAMPLE, [], [], (0, 0, 1, 1))

    def test_marks_do_not_grow_beyond_what_check_says(self):
        found = recheck(EXAMPLE, [("width", "metal", 2)], [((0, 2, 1, 5),)], window=(0, 2, 1, 3))
        self.assertEqual(area(found[0]), 3)


if __name__ == "__main__":
    unittest.main()
