"""Point 59: written decks."""

import random
import unittest

from reticle.decks import Deck
from reticle.decktext import format_deck, parse_deck
from reticle.errors import InvalidText
from reticle.layouts import LAYERS
from tests.helpers import random_expression, random_rule

A, B, C, D = [("layer", name) for name in ("active", "poly", "metal", "via")]

LONG = "9" * 30

BEGINNING = "layer gate active and poly\nlayer ring grow 1 gate"

# Expressions and their words.
WRITTEN = [
    (A, "active"),
    (("and", A, B), "active and poly"),
    (("or", ("and", A, B), C), "active and poly or metal"),
    (("and", A, ("or", B, C)), "active and ( poly or metal )"),
    (("minus", ("odd", ("or", ("and", A, B), C), D), A), "active and poly or metal odd via minus active"),
    (("minus", A, ("odd", B, ("or", C, ("and", D, A)))), "active minus ( poly odd ( metal or ( via and active ) ) )"),
    (("or", ("and", A, B), ("and", C, D)), "active and poly or ( metal and via )"),
    (("or", A, ("and", ("minus", B, C), D)), "active or ( poly minus metal and via )"),
    (("grow", 1, A), "grow 1 active"),
    (("grow", 0, ("shrink", 1000, ("open", 1, A))), "grow 0 shrink 1000 open 1 active"),
    (("open", 7, ("and", A, B)), "open 7 ( active and poly )"),
    (("and", ("open", 7, A), B), "open 7 active and poly"),
    (("and", A, ("open", 7, B)), "active and open 7 poly"),
    (("or", ("and", A, ("shrink", 0, B)), C), "active and shrink 0 poly or metal"),
    (("and", A, ("shrink", 2, ("or", B, C))), "active and shrink 2 ( poly or metal )"),
    (("and", ("shrink", 2, ("or", B, C)), A), "shrink 2 ( poly or metal ) and active"),
    (("grow", 1, ("shrink", 2, ("odd", A, ("grow", 3, ("odd", B, C))))),
     "grow 1 shrink 2 ( active odd grow 3 ( poly odd metal ) )"),
    (("odd", ("grow", 1, ("odd", A, B)), ("grow", 1, ("odd", A, B))),
     "grow 1 ( active odd poly ) odd grow 1 ( active odd poly )"),
]


def shown(value):
    """A value with the kinds of all of its parts."""
    if isinstance(value, tuple):
        return tuple(shown(part) for part in value)
    return (type(value), value)


class Writing(unittest.TestCase):
    def test_expressions(self):
        for expression, words in WRITTEN:
            deck = Deck([("a", expression), ("b", ("layer", "a"))], [])
            text = f"layer a {words}\nlayer b a"
            self.assertEqual(format_deck(deck), text)
            found = parse_deck(text)
            self.assertEqual(shown(found.definitions), shown(deck.definitions))
            self.assertEqual(found.rules, ())

    def test_rules(self):
        rules = [("width", "a", 1), ("space", "metal", 1000), ("apart", "a", "via", 0), ("cover", "top", "a", 7),
                 ("area", "well", 12), ("size", "contact", 3, 40), ("never", "poly", "a")]
        text = "\n".join(["layer a metal", "rule width a 1", "rule space metal 1000", "rule apart a via 0",
                          "rule cover top a 7", "rule area well 12", "rule size contact 3 40", "rule never poly a"])
        self.assertEqual(format_deck(Deck([("a", C)], rules)), text)
        found = parse_deck(text)
        self.assertIsInstance(found, Deck)
        self.assertEqual(shown(found.rules), shown(tuple(rules)))

    def test_empty(self):
        self.assertEqual(format_deck(Deck([], [])), "")
        found = parse_deck("")
        self.assertEqual((found.definitions, found.rules), ((), ()))

    def test_example(self):
        text = ("layer gate active and poly\nlayer ring grow 1 gate minus ( gate or well )\n"
                "rule width gate 3\nrule never ring metal")
        deck = parse_deck(text)
        self.assertEqual(format_deck(deck), text)
        self.assertEqual(deck.definitions[1], ("ring", ("minus", ("grow", 1, ("layer", "gate")),
                                                        ("or", ("layer", "gate"), ("layer", "well")))))
        self.assertEqual(deck.rules, (("width", "gate", 3), ("never", "ring", "metal")))

    def test_there_and_back(self):
        source = random.Random(1)
        for _ in range(150):
            names, definitions = list(LAYERS), []
            for at in range(source.randint(0, 5)):
                definitions.append((f"d{at}", random_expression(source, names, source.randint(1, 7), 1000)))
                names.append(f"d{at}")
            deck = Deck(definitions, [random_rule(source, names, 1000) for _ in range(source.randint(0, 5))])
            text = format_deck(deck)
            found = parse_deck(text)
            self.assertEqual(shown(found.definitions), shown(deck.definitions))
            self.assertEqual(shown(found.rules), shown(deck.rules))
            self.assertEqual(format_deck(found), text)

    def test_names_like_kinds_of_rules(self):
        text = "layer width metal\nlayer never width or via\nrule width width 3\nrule never never width"
        self.assertEqual(format_deck(parse_deck(text)), text)

    def test_full(self):
        lines = [f"layer d{at} metal" for at in range(40)] + [f"rule width d{at} 1" for at in range(40)]
        deck = parse_deck("\n".join(lines))
        self.assertEqual((len(deck.definitions), len(deck.rules)), (40, 40))
        self.assertEqual(format_deck(deck), "\n".join(lines))


class Refusing(unittest.TestCase):
    def refused(self, text, line):
        with self.assertRaises(InvalidText) as caught:
            parse_deck(text)
        self.assertIs(type(caught.exception), InvalidText)
        self.assertEqual(caught.exception.line, line, text[:200])

    def wrong_line(self, line, before=BEGINNING):
        """The line is wrong behind these lines, whatever follows it."""
        number = before.count("\n") + 2
        self.refused(f"{before}\n{line}", number)
        self.refused(f"{before}\n{line}\nlayer z metal\nwhat", number)

    def wrong_words(self, *expressions):
        for words in expressions:
            self.wrong_line(f"layer a {words}")

    def test_beginning_is_right(self):
        self.assertEqual(len(parse_deck(BEGINNING).definitions), 2)

    def test_example(self):
        self.refused("layer gate active and poly\nrule width gates 3", 2)

    def test_parentheses_that_are_not_due(self):
        self.wrong_words("( active )", "( active and poly )", "( active and poly ) or metal", "active and ( poly )",
                         "grow 1 ( active )", "grow 1 ( grow 1 active )", "active and ( grow 1 poly )",
                         "active or ( ( poly and metal ) )", "active or ( ( poly and metal ) or via )",
                         "grow 1 ( ( active or poly ) )", "grow ( 1 ) active", "( grow 1 active )", "( )", "active ( )",
                         "active and ( )", "( active ) and poly", "active ( and poly )", "( ( active and poly ) )",
                         "( grow 1 active and poly )", "grow 1 ( active ) and poly")

    def test_parentheses_that_do_not_match(self):
        self.wrong_words("(", ")", "active )", "( active", "active and ( poly or metal", "active and poly or metal )",
                         "active and ( poly or ( metal or via )", "active and ( poly or metal ) )", "active and )",
                         "active and ( poly or", "active and ( poly or )", "grow 1 (", "grow 1 )", "grow 1 ( active and poly",
                         ") active", "active and ) poly (", "open 1 ( active or poly ) )")

    def test_operations_without_parts(self):
        self.wrong_words("and", "active and", "and active", "active and and poly", "active or minus poly", "grow", "grow 1",
                         "grow active", "active grow 1", "active and grow 1", "grow 1 grow active", "open 2 and poly",
                         "active odd", "grow 1 and", "active and ( or poly )", "active and ( and )", "shrink 1 ( and )")

    def test_words_too_many(self):
        self.wrong_words("active poly", "active and poly metal", "grow 1 active poly", "active 1", "grow 1 1 active",
                         "grow 1 active 1", "active and ( poly or metal via )", "active layer", "1", "1 active")

    def test_too_short_lines(self):
        for line in ["layer", "layer a", "rule", "rule width", "rule width metal", "", " ", "layer metal"]:
            self.wrong_line(line)

    def test_unknown_first_words(self):
        for line in ["what", "layers a metal", "Layer a metal", "rules width metal 1", "Rule width metal 1", "width metal 1",
                     "a metal", "gate", "define a metal", "1"]:
            self.wrong_line(line)

    def test_spaces(self):
        for line in ["layer a active and ( poly or grow 1 metal )", "rule width gate 3", "rule never gate metal"]:
            self.assertIsInstance(parse_deck(f"{BEGINNING}\n{line}"), Deck)
            self.wrong_line(" " + line)
            self.wrong_line(line + " ")
            words = line.split(" ")
            for at in range(1, len(words)):
                self.wrong_line(" ".join(words[:at]) + "  " + " ".join(words[at:]))
        self.wrong_words("active and (poly or metal)", "active and ( poly or metal) ", "grow 1(active and poly)",
                         "grow1 active")

    def test_empty_lines_and_newlines(self):
        self.refused("\n", 1)
        self.refused("\nlayer a metal", 1)
        self.refused("layer a metal\n", 2)
        self.refused("rule width metal 1\n", 2)
        self.refused("layer a metal\n\nrule width a 1", 2)
        self.refused(" ", 1)

    def test_integers(self):
        for word in ["+1", "01", "-0", "00", "", "-", "1.0", "1_0", "a", "metal", "--1", "1" * 31, "9" * 4000]:
            for operation in ("grow", "shrink", "open"):
                self.wrong_words(f"{operation} {word} active", f"metal and {operation} {word} active")
            self.wrong_line(f"rule width metal {word}")
            self.wrong_line(f"rule apart metal via {word}")
            self.wrong_line(f"rule size metal {word} 1")
            self.wrong_line(f"rule size metal 1 {word}")

    def test_numbers_out_of_range(self):
        for word in ["-1", "1001", LONG, "-" + LONG]:
            for operation in ("grow", "shrink", "open"):
                self.wrong_words(f"{operation} {word} active")
            for rule in ["width metal", "space metal", "apart metal via", "cover metal via", "area metal", "size metal 1"]:
                self.wrong_line(f"rule {rule} {word}")
        self.wrong_words("open 0 active", "grow 1 open 0 active", "active and open 0 poly")
        for rule in ["width metal 0", "space metal 0", "area metal 0", "size metal 0 1", "size metal 1 0"]:
            self.wrong_line(f"rule {rule}")

    def test_names(self):
        for name in ["A", "9", "a_", "longestname12", "-", "(", "1", "Gate"]:
            self.wrong_line(f"layer {name} metal")
        for name in [*LAYERS, "and", "or", "minus", "odd", "grow", "shrink", "open", "layer", "rule"]:
            self.wrong_line(f"layer {name} metal")
        for name in ["gate", "ring"]:
            self.wrong_line(f"layer {name} metal")

    def test_unknown_layers(self):
        self.wrong_words("a", "steel", "grow 1 a", "active and a", "a and active", "active and ( poly or a )", "gates", "Gate",
                         "layer", "rule", "width", "z")
        self.wrong_line("rule width a 1")
        self.wrong_line("rule never gate gates")
        self.wrong_line("rule never and gate")

    def test_layers_that_are_defined_later(self):
        self.refused("layer a b\nlayer b metal", 1)
        self.refused("rule width a 1\nlayer a metal", 1)

    def test_a_definition_after_a_rule(self):
        self.wrong_line("layer a metal", before=BEGINNING + "\nrule width gate 1")
        self.refused("rule width metal 1\nlayer a metal", 2)

    def test_a_line_too_many(self):
        definitions = [f"layer d{at} metal" for at in range(41)]
        self.refused("\n".join(definitions), 41)
        self.refused("\n".join(definitions + ["rule width metal 1"]), 41)
        rules = ["rule width metal 1"] * 41
        self.refused("\n".join(rules), 41)
        self.refused("\n".join(definitions[:40] + rules), 81)

    def test_depths(self):
        leaning = {
            "left": lambda depth: " and ".join(["metal"] * depth),
            "right": lambda depth: "metal and ( " * (depth - 2) + "metal and metal" + " )" * (depth - 2),
            "inner": lambda depth: "grow 1 " * (depth - 1) + "metal",
        }
        for words in leaning.values():
            for depth in (2, 11, 12):
                text = f"layer a {words(depth)}"
                self.assertEqual(format_deck(parse_deck(text)), text)
            for depth in (13, 14, 60, 3000, 100000):
                self.refused(f"layer a {words(depth)}", 1)
                self.refused(f"layer b metal\nlayer a grow 1 {words(depth)}", 2)

    def test_depths_of_mixed_expressions(self):
        inner = "grow 1 " * 9 + "metal"
        for words, is_right in [(f"metal and ( metal or {inner} )", True), (f"metal and ( metal or grow 1 {inner} )", False),
                                (f"{inner} and metal or metal", True), (f"grow 1 {inner} and metal or metal", False),
                                (f"grow 1 grow 1 {inner}", True), (f"grow 1 ( {inner} and metal )", True),
                                (f"grow 1 ( grow 1 {inner} and metal )", False),
                                (f"metal and ( metal or {inner} or metal )", False)]:
            if is_right:
                self.assertEqual(format_deck(parse_deck(f"layer a {words}")), f"layer a {words}")
            else:
                self.refused(f"layer a {words}", 1)

    def test_many_open_parentheses(self):
        for many in (13, 500, 100000):
            self.wrong_words("( " * many + "metal", "metal and ( " * many + "metal", "grow 1 ( " * many + "metal",
                             "metal" + " )" * many, "metal and " * many, "grow 1 " * many, " ".join(["("] * many))

    def test_rules_with_a_wrong_number_of_words(self):
        for rule in ["width metal", "width metal 1 1", "width metal via 1", "width 1", "space metal 1 1", "apart metal 1",
                     "apart metal via", "apart metal via 1 1", "cover metal via top 1", "area metal", "area metal 1 1",
                     "size metal 1", "size metal 1 1 1", "never metal", "never metal via 1", "never metal via top", "never",
                     "apart metal via 1 ", "width metal one"]:
            self.wrong_line(f"rule {rule}")

    def test_rules_of_unknown_kinds(self):
        for kind in ["wide", "Width", "", "strangers", "tied", "and", "gate", "0"]:
            self.wrong_line(f"rule {kind} metal 1")

    def test_equal_layers(self):
        for rule in ["apart gate gate 1", "cover metal metal 0", "never ring ring"]:
            self.wrong_line(f"rule {rule}")

    def test_the_first_wrong_line(self):
        self.refused("layer a metal\nlayer b c\nlayer a metal\nrule width d 1", 2)
        self.refused("layer a metal\nrule width a 0\nlayer", 2)

    def test_changed_texts(self):
        # Whatever is accepted is written again as it was.
        source, words, right = random.Random(2), ["(", ")", "and", "or", "grow", "open", "1", "0", "metal", "via", "", "a"], 0
        for _ in range(4000):
            line = [source.choice(words) for _ in range(source.randint(1, 7))]
            text = f"layer b {' '.join(line)}"
            try:
                self.assertEqual(format_deck(parse_deck(text)), text)
                right += 1
            except InvalidText as error:
                self.assertEqual(error.line, 1)
        self.assertGreater(right, 50)

    def test_one_word_changed(self):
        source = random.Random(3)
        for expression, words in WRITTEN * 4:
            parts = words.split(" ")
            at = source.randrange(len(parts))
            for changed in (parts[:at] + parts[at + 1:], parts[:at] + ["("] + parts[at:], parts[:at] + [")"] + parts[at:]):
                text = f"layer a {' '.join(changed)}"
                try:
                    found = parse_deck(text)
                except InvalidText:
                    continue
                self.assertEqual(format_deck(found), text)
                self.assertNotEqual(found.definitions[0][1], expression)


if __name__ == "__main__":
    unittest.main()
