"""Points 57 and 58: expressions, their depths, and decks."""

import random
import unittest

from reticle.decks import Deck, expression_depth
from reticle.errors import InvalidDeck
from reticle.layouts import LAYERS
from tests.helpers import HUGE, random_expression, random_rule

METAL = ("layer", "metal")

PAIRING = ("and", "or", "minus", "odd")

SIZING = ("grow", "shrink", "open")

WORDS = (*PAIRING, *SIZING, "layer", "rule")

GATE = ("gate", ("and", ("layer", "active"), ("layer", "poly")))


def leaning(depth, side):
    """An expression of this depth, whose deeper parts are all on one side or under operations with numbers."""
    expression = METAL
    for at in range(depth - 1):
        if side == "left":
            expression = (PAIRING[at % 4], expression, METAL)
        elif side == "right":
            expression = (PAIRING[at % 4], METAL, expression)
        else:
            expression = (SIZING[at % 3], 1, expression)
    return expression


def doubled(depth):
    """An expression of this depth in which both parts of every part are the same."""
    expression = METAL
    for at in range(depth - 1):
        expression = (PAIRING[at % 4], expression, expression)
    return expression


def plain_depth(expression):
    """Point 57, part by part."""
    return 1 + max((plain_depth(part) for part in expression[1:] if isinstance(part, tuple)), default=0)


class Depth(unittest.TestCase):
    def test_by_hand(self):
        self.assertEqual(expression_depth(METAL), 1)
        self.assertEqual(expression_depth(("grow", 0, METAL)), 2)
        self.assertEqual(expression_depth(("and", METAL, METAL)), 2)
        self.assertEqual(expression_depth(("odd", METAL, ("open", 5, ("layer", "x")))), 3)
        self.assertEqual(expression_depth(("odd", ("open", 5, ("minus", METAL, METAL)), METAL)), 4)

    def test_up_to_sixty(self):
        for depth in range(1, 61):
            for side in ("left", "right", "inner"):
                self.assertEqual(expression_depth(leaning(depth, side)), depth)

    def test_against_the_parts(self):
        source = random.Random(1)
        for _ in range(200):
            expression = random_expression(source, ["metal", "via"], source.randint(1, 9))
            self.assertEqual(expression_depth(expression), plain_depth(expression))

    def test_the_same_part_at_many_places(self):
        for depth in (2, 12, 60):
            self.assertEqual(expression_depth(doubled(depth)), depth)
        expression = METAL
        for _ in range(29):
            expression = ("and", expression, ("grow", 1, expression))
        self.assertEqual(expression_depth(expression), 59)

    def test_names_and_numbers_may_be_wrong(self):
        self.assertEqual(expression_depth(("grow", -HUGE, ("layer", "and"))), 2)


class Right(unittest.TestCase):
    def test_fields(self):
        definitions = [GATE, ("ring", ("minus", ("grow", 1, ("layer", "gate")), ("layer", "gate")))]
        rules = [("width", "gate", 3), ("never", "ring", "metal"), ("never", "ring", "metal")]
        deck = Deck(definitions, rules)
        self.assertEqual(deck.definitions, tuple(definitions))
        self.assertEqual(deck.rules, tuple(rules))
        self.assertEqual(sorted(vars(deck)), ["definitions", "rules"])

    def test_empty(self):
        self.assertEqual((Deck([], []).definitions, Deck([], []).rules), ((), ()))

    def test_lists_stay_and_are_copied(self):
        definitions, rules = [GATE], [("width", "gate", 3)]
        deck = Deck(definitions, rules)
        self.assertEqual((definitions, rules), ([GATE], [("width", "gate", 3)]))
        definitions.append("x")
        rules.clear()
        self.assertEqual((deck.definitions, deck.rules), ((GATE,), (("width", "gate", 3),)))

    def test_random_ones(self):
        source = random.Random(2)
        for _ in range(60):
            names, definitions = list(LAYERS), []
            for at in range(source.randint(0, 5)):
                definitions.append((f"d{at}", random_expression(source, names, source.randint(1, 8), 1000)))
                names.append(f"d{at}")
            rules = [random_rule(source, names, 1000) for _ in range(source.randint(0, 6))]
            deck = Deck(definitions, rules)
            self.assertEqual((deck.definitions, deck.rules), (tuple(definitions), tuple(rules)))


class Refusing(unittest.TestCase):
    def right(self, definitions, rules=()):
        self.assertEqual(Deck(list(definitions), list(rules)).definitions, tuple(definitions))

    def wrong(self, definitions, rules=()):
        definitions, rules = list(definitions), list(rules)
        copies = list(definitions), list(rules)
        with self.assertRaises(InvalidDeck) as caught:
            Deck(definitions, rules)
        self.assertIs(type(caught.exception), InvalidDeck)
        self.assertEqual((definitions, rules), copies)

    def test_names(self):
        for name in ["a", "z9", "longestname1", "width", "never", "cell", "grows", "layers", "x"]:
            self.right([(name, METAL)])
        for name in ["", "A", "9", "a_", "longestname12", "a b", " a", "-", "(", "1"]:
            self.wrong([(name, METAL)])

    def test_the_seven_layers(self):
        for name in LAYERS:
            self.wrong([(name, METAL)])
            self.wrong([(name, ("layer", "via"))])

    def test_the_nine_words(self):
        self.assertEqual(len(WORDS), 9)
        for name in WORDS:
            self.wrong([(name, METAL)])
            self.wrong([("a", ("layer", name))])

    def test_defined_before(self):
        self.wrong([GATE, GATE])
        self.wrong([("a", METAL), ("b", METAL), ("a", ("layer", "b"))])
        self.right([("a", METAL), ("b", METAL)])

    def test_unknown_layers(self):
        for name in ["steel", "", "Metal", "a", "b", "metal "]:
            # In the definition of itself, of a later one, or of none.
            self.wrong([("a", ("layer", name)), ("b", METAL)])
            self.wrong([("a", ("or", METAL, ("grow", 1, ("layer", name)))), ("b", METAL)])
            self.wrong([("a", ("or", ("open", 1, ("layer", name)), METAL)), ("b", METAL)])
        self.right([("a", METAL), ("b", ("layer", "a")), ("c", ("and", ("layer", "a"), ("layer", "b")))])

    def test_numbers(self):
        for operation in SIZING:
            for inside in (lambda e: e, lambda e: ("and", e, METAL), lambda e: ("and", METAL, e), lambda e: ("grow", 0, e)):
                for n in (1, 2, 1000):
                    self.right([("a", inside((operation, n, METAL)))])
                for n in (-1, 1001, HUGE, -HUGE):
                    self.wrong([("a", inside((operation, n, METAL)))])
                if operation == "open":
                    self.wrong([("a", inside((operation, 0, METAL)))])
                else:
                    self.right([("a", inside((operation, 0, METAL)))])

    def test_depths(self):
        for side in ("left", "right", "inner"):
            for depth in (1, 2, 11, 12):
                self.right([("a", leaning(depth, side))])
            for depth in (13, 14, 30, 60):
                self.wrong([("a", leaning(depth, side))])
                self.wrong([("b", METAL), ("a", leaning(depth, side))])
        self.right([("a", doubled(12))])
        self.wrong([("a", doubled(13))])
        self.wrong([("a", doubled(60))])

    def test_depths_do_not_add_up(self):
        self.right([("a", leaning(12, "left")), ("b", ("grow", 1, ("layer", "a"))), ("c", leaning(12, "right"))])

    def test_numbers_of_definitions(self):
        definitions = [(f"d{at}", METAL) for at in range(41)]
        self.right(definitions[:40])
        self.wrong(definitions)
        chained = [("d0", METAL)] + [(f"d{at}", ("layer", f"d{at - 1}")) for at in range(1, 41)]
        self.right(chained[:40])
        self.wrong(chained)

    def test_numbers_of_rules(self):
        rules = [("width", "metal", at + 1) for at in range(41)]
        self.right([], rules[:40])
        self.wrong([], rules)
        self.right([(f"d{at}", METAL) for at in range(40)], rules[:40])

    def test_rules_over_derived_layers(self):
        definitions = [GATE, ("b", METAL)]
        self.right(definitions, [("width", "gate", 1), ("space", "b", 1000), ("apart", "gate", "b", 0), ("area", "b", 7),
                                 ("cover", "gate", "well", 1000), ("size", "gate", 1, 1000), ("never", "b", "metal")])

    def test_wrong_rules(self):
        definitions = [GATE, ("b", METAL)]
        for rule in [("width", "steel", 1), ("space", "", 1), ("apart", "gate", "gates", 1), ("cover", "c", "gate", 1),
                     ("area", "GATE", 1), ("size", "and", 1, 1), ("never", "rule", "gate"), ("never", "gate", "open")]:
            self.wrong(definitions, [rule])
        for rule in [("apart", "gate", "gate", 1), ("cover", "b", "b", 0), ("never", "b", "b"), ("never", "via", "via")]:
            self.wrong(definitions, [rule])
        for n in (0, -1, 1001, HUGE):
            for rule in [("width", "gate", n), ("space", "b", n), ("area", "via", n), ("size", "b", n, 1),
                         ("size", "b", 1, n)]:
                self.wrong(definitions, [rule])
                self.wrong(definitions, [("width", "gate", 1), rule])
        for n in (-1, 1001, -HUGE):
            for kind in ("apart", "cover"):
                self.wrong(definitions, [(kind, "gate", "b", n)])


if __name__ == "__main__":
    unittest.main()
