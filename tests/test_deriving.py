"""Points 57 and 58: the squares of derived layers, and the marks of rules about them."""

import random
import unittest

from reticle.checking import check
from reticle.decks import Deck
from reticle.decktext import parse_deck
from reticle.deriving import check_deck, derived, evaluate
from reticle.layouts import LAYERS, Layout
from reticle.regions import is_region, move_region
from tests.helpers import (
    HUGE, TURN_COUNT, box_squares, cut_shapes, random_expression, random_rule, random_shapes, region_of_squares,
    spread_squares, squares_of,
)
from tests.plain import marked_squares, squares_on

A, B = ("layer", "a"), ("layer", "b")


def plain_squares(expression, squares):
    """The squares of an expression, each looked at by itself; a dict has the squares of each name."""
    operation = expression[0]
    if operation == "layer":
        return squares[expression[1]]
    if operation in ("grow", "shrink", "open"):
        n, inner = expression[1], plain_squares(expression[2], squares)
        if operation == "grow":
            return spread_squares(inner, n, n, n, n)
        if operation == "shrink":
            return {(x, y) for x, y in inner if box_squares(x - n, y - n, 2 * n + 1) <= inner}
        return {place for x, y in inner if box_squares(x, y, n) <= inner for place in box_squares(x, y, n)}
    left, right = [plain_squares(part, squares) for part in expression[1:]]
    return {"and": left & right, "or": left | right, "minus": left - right, "odd": left ^ right}[operation]


def as_shapes(squares):
    """Shapes for the squares of each name."""
    return [(name, (x, y, x + 1, y + 1)) for name, part in squares.items() for x, y in part]


def random_deck(source, greatest=2):
    """A deck with some definitions, each of which may use those before it, and with rules about all layers."""
    names, definitions = ["active", "poly", "metal"], []
    for at in range(source.randint(1, 4)):
        definitions.append((f"d{at}", random_expression(source, names, source.randint(1, 4), greatest)))
        names.append(f"d{at}")
    return Deck(definitions, [random_rule(source, names) for _ in range(source.randint(1, 5))])


class Evaluate(unittest.TestCase):
    def agree(self, expression, squares):
        regions = {name: region_of_squares(part) for name, part in squares.items()}
        copy = dict(regions)
        found = evaluate(expression, regions)
        self.assertEqual(found, region_of_squares(plain_squares(expression, squares)), expression)
        self.assertIs(is_region(found), True)
        self.assertEqual(regions, copy)

    def samples(self, count, seed=1):
        source = random.Random(seed)
        return [{name: squares_of(box for _, box in random_shapes(source, [name], most=5, size=5)) for name in "ab"}
                for _ in range(count)]

    def test_each_operation(self):
        for squares in self.samples(40):
            for operation in ("and", "or", "minus", "odd"):
                self.agree((operation, A, B), squares)
                self.agree((operation, B, A), squares)
                self.agree((operation, A, A), squares)
            for n in range(4):
                self.agree(("grow", n, A), squares)
                self.agree(("shrink", n, A), squares)
                self.agree(("open", n + 1, A), squares)

    def test_nested_ones(self):
        source = random.Random(2)
        for squares in self.samples(150, seed=3):
            self.agree(random_expression(source, ["a", "b"], source.randint(2, 6), 2), squares)

    def test_layers(self):
        regions = {"a": ((0, 0, 3, 1),), "b": (), "metal": ((5, 5, 6, 6),)}
        for name, region in regions.items():
            self.assertEqual(evaluate(("layer", name), regions), region)

    def test_empty_layers(self):
        nothing = {"a": set(), "b": set()}
        one = {"a": squares_of([(0, 0, 3, 3)]), "b": set()}
        for operation in ("and", "or", "minus", "odd"):
            self.agree((operation, A, B), nothing)
            self.agree((operation, A, B), one)
            self.agree((operation, B, A), one)
        for operation in ("grow", "shrink", "open"):
            self.agree((operation, 2, B), one)
            self.agree((operation, 2, ("shrink", 2, A)), one)

    def test_by_hand(self):
        regions = {"a": ((0, 0, 4, 2), (0, 2, 1, 5)), "b": ((1, 0, 2, 9),)}
        self.assertEqual(evaluate(("minus", A, B), regions), ((0, 0, 1, 2), (2, 0, 4, 2), (0, 2, 1, 5)))
        self.assertEqual(evaluate(("minus", B, A), regions), ((1, 2, 2, 9),))
        self.assertEqual(evaluate(("open", 2, A), regions), ((0, 0, 4, 2),))
        self.assertEqual(evaluate(("grow", 1, B), regions), ((0, -1, 3, 10),))
        self.assertEqual(evaluate(("shrink", 1, ("grow", 1, A)), regions), regions["a"])
        self.assertEqual(evaluate(("grow", 0, A), regions), regions["a"])

    def test_huge(self):
        regions = {"a": ((-HUGE, -HUGE, HUGE, HUGE),), "b": ((HUGE + 10, 0, 2 * HUGE, 5),)}
        self.assertEqual(evaluate(("grow", 1000, A), regions), ((-HUGE - 1000, -HUGE - 1000, HUGE + 1000, HUGE + 1000),))
        self.assertEqual(evaluate(("open", 6, ("or", A, B)), regions), regions["a"])
        self.assertEqual(evaluate(("and", ("grow", 5, A), ("grow", 5, B)), regions), ())
        self.assertEqual(evaluate(("and", ("grow", 6, A), ("grow", 6, B)), regions), ((HUGE + 4, -6, HUGE + 6, 11),))
        self.assertEqual(evaluate(("shrink", 1000, A), regions), ((1000 - HUGE, 1000 - HUGE, HUGE - 1000, HUGE - 1000),))


class Derived(unittest.TestCase):
    def test_against_the_squares(self):
        source = random.Random(4)
        for _ in range(40):
            shapes, deck = random_shapes(source, ["active", "poly", "metal"], most=3, size=5), random_deck(source)
            squares = squares_on(shapes)
            found = derived(Layout(shapes, []), deck)
            for name, expression in deck.definitions:
                squares[name] = plain_squares(expression, squares)
            self.assertEqual(set(found), set(squares))
            for name, part in squares.items():
                self.assertEqual(found[name], region_of_squares(part))

    def test_without_definitions(self):
        layout = Layout([("metal", (0, 0, 1, 1))], [])
        found = derived(layout, Deck([], []))
        self.assertIsInstance(found, dict)
        self.assertEqual(found, {layer: layout.region(layer) for layer in LAYERS})
        found["metal"] = ()
        self.assertEqual(derived(layout, Deck([], []))["metal"], ((0, 0, 1, 1),))

    def test_layers_that_are_not_defined_by_others(self):
        deck = Deck([("a", ("layer", "top")), ("b", ("layer", "a"))], [])
        found = derived(Layout([("top", (0, 0, 1, 1))], []), deck)
        self.assertEqual(sorted(found), sorted([*LAYERS, "a", "b"]))
        self.assertEqual((found["a"], found["b"], found["well"]), (((0, 0, 1, 1),), ((0, 0, 1, 1),), ()))


class CheckDeck(unittest.TestCase):
    def test_example(self):
        deck = parse_deck("layer gate active and poly\nlayer ring grow 1 gate minus ( gate or well )\n"
                          "rule width gate 3\nrule never ring metal")
        layout = Layout([("active", (0, 0, 6, 2)), ("poly", (2, -1, 4, 3))], [])
        self.assertEqual(check_deck(layout, deck), [((2, 0, 4, 2),), ()])

    def test_against_the_squares(self):
        source, kinds = random.Random(5), set()
        for _ in range(80):
            shapes, deck = random_shapes(source, ["active", "poly", "metal"], most=3, size=4), random_deck(source)
            squares = squares_on(shapes)
            for name, expression in deck.definitions:
                squares[name] = plain_squares(expression, squares)
            found = check_deck(Layout(shapes, []), deck)
            self.assertEqual(len(found), len(deck.rules))
            for rule, region in zip(deck.rules, found):
                self.assertEqual(region, region_of_squares(marked_squares(as_shapes(squares), rule)), (rule, shapes))
                if region and any(name.startswith("d") for name in rule[1:3] if isinstance(name, str)):
                    kinds.add(rule[0])
        self.assertEqual(len(kinds), 7)

    def test_the_seven_layers_alone(self):
        source = random.Random(6)
        for _ in range(20):
            layout = Layout(random_shapes(source, LAYERS, most=2), [])
            rules = [random_rule(source, list(LAYERS)) for _ in range(6)]
            self.assertEqual(check_deck(layout, Deck([], rules)), check(layout, rules))

    def test_empty_layers(self):
        deck = Deck([("none", ("minus", ("layer", "metal"), ("layer", "metal"))), ("all", ("layer", "metal"))],
                    [("width", "none", 9), ("space", "none", 9), ("apart", "none", "all", 9), ("cover", "none", "all", 9),
                     ("area", "none", 9), ("size", "none", 9, 9), ("never", "none", "all"), ("apart", "all", "none", 9),
                     ("cover", "all", "none", 0)])
        layout = Layout([("metal", (0, 0, 5, 5))], [])
        self.assertEqual(check_deck(layout, deck), [()] * 8 + [((0, 0, 5, 5),)])
        self.assertEqual(check_deck(Layout([], []), deck), [()] * 9)

    def test_no_rules(self):
        self.assertEqual(check_deck(Layout([], []), Deck([("a", ("layer", "well"))], [])), [])

    def test_cut_otherwise_and_moved(self):
        source = random.Random(7)
        for turn in range(TURN_COUNT):
            shapes, deck = random_shapes(source, ["active", "poly", "metal"]), random_deck(source)
            layout, move = Layout(shapes, []), (turn, HUGE, -9)
            found = check_deck(layout, deck)
            self.assertEqual(check_deck(Layout(cut_shapes(source, shapes), [("a", "top", 0, 0)]), deck), found)
            self.assertEqual(check_deck(layout.moved(move), deck), [move_region(move, region) for region in found])

    def test_lists_are_new_and_nothing_is_changed(self):
        deck = Deck([("a", ("grow", 1, ("layer", "metal")))], [("width", "a", 4)])
        layout = Layout([("metal", (0, 0, 1, 1))], [])
        found = check_deck(layout, deck)
        self.assertIsInstance(found, list)
        found.append("x")
        self.assertEqual(check_deck(layout, deck), [((-1, -1, 2, 2),)])
        self.assertEqual(deck.definitions, (("a", ("grow", 1, ("layer", "metal"))),))
        self.assertEqual(layout, Layout([("metal", (0, 0, 1, 1))], []))


if __name__ == "__main__":
    unittest.main()
