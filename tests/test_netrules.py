"""Points 69 and 70: net rules."""

import random
import unittest

from reticle.errors import InvalidNetRule
from reticle.layouts import LAYERS, Layout
from reticle.netrules import check_nets, is_net_rule, net_marks
from reticle.regions import is_region, move_region
from reticle.wiring import CONDUCTORS, connect
from tests.helpers import HUGE, TURN_COUNT, cut_shapes, random_shapes, region_of_squares
from tests.plain import channel_squares, plain_nets

STRIPS = [("metal", (0, 0, 1, 1)), ("metal", (2, 0, 3, 1))]


def marked_places(shapes, labels, rule):
    """The squares that a net rule marks, each looked at by itself."""
    kind, layer = rule[:2]
    nets = plain_nets(shapes)
    places = {(x, y): net for (other, x, y), net in nets.items() if other == layer}
    if kind == "strangers":
        steps = range(-rule[2], rule[2] + 1)
        return {(x, y) for (x, y), net in places.items()
                if any(places.get((x + i, y + j), net) != net for i in steps for j in steps)}
    if kind == "tied":
        labelled = {nets.get(label[1:]) for label in labels}
        return {square for square, net in places.items() if net not in labelled}
    gates, sizes = {}, {}
    for channel in channel_squares(shapes):
        net = nets["poly", *min(channel)]
        gates[net] = gates.get(net, 0) + len(channel)
    for net in places.values():
        sizes[net] = sizes.get(net, 0) + 1
    return {square for square, net in places.items() if net in gates and sizes[net] > rule[2] * gates[net]}


def samples(count, seed=1, most=3):
    """Lists of shapes and of labels, the same on each call."""
    source, found = random.Random(seed), []
    for _ in range(count):
        labels = [("a", source.choice(CONDUCTORS), source.randint(-5, 6), source.randint(-5, 6)) for _ in range(6)]
        found.append((random_shapes(source, LAYERS, most, size=5), labels))
    return found


RULES = [("tied", layer) for layer in CONDUCTORS]
RULES += [("strangers", layer, n) for layer in CONDUCTORS for n in (0, 1, 2, 4)]
RULES += [("antenna", layer, n) for layer in CONDUCTORS for n in (1, 2, 3)]


class IsNetRule(unittest.TestCase):
    def test_right_ones(self):
        for layer in CONDUCTORS:
            for rule in [("strangers", layer, 0), ("strangers", layer, 1), ("strangers", layer, 1000), ("antenna", layer, 1),
                         ("antenna", layer, 1000), ("tied", layer)]:
                self.assertIs(is_net_rule(rule), True)

    def test_numbers(self):
        for layer in CONDUCTORS:
            for n in (-1, 1001, HUGE, -HUGE):
                self.assertIs(is_net_rule(("strangers", layer, n)), False)
                self.assertIs(is_net_rule(("antenna", layer, n)), False)
            self.assertIs(is_net_rule(("antenna", layer, 0)), False)

    def test_layers(self):
        for layer in ["well", "contact", "via", "steel", "", "Metal"]:
            for rule in [("strangers", layer, 1), ("antenna", layer, 1), ("tied", layer)]:
                self.assertIs(is_net_rule(rule), False)


class NetMarks(unittest.TestCase):
    def agree(self, shapes, labels, rules):
        layout = Layout(shapes, labels)
        wiring = connect(layout)
        for rule in rules:
            found = net_marks(layout, wiring, rule)
            self.assertEqual(found, region_of_squares(marked_places(shapes, labels, rule)), (rule, shapes))
            self.assertIs(is_region(found), True)

    def test_against_the_places(self):
        for shapes, labels in samples(60):
            self.agree(shapes, labels, RULES)

    def test_few_layers_against_the_places(self):
        source = random.Random(2)
        for _ in range(60):
            shapes = random_shapes(source, ["active", "poly", "metal"], most=5, size=5)
            self.agree(shapes, [("a", "poly", 0, 0)], RULES)

    def marks(self, shapes, rule, labels=()):
        layout = Layout(shapes, list(labels))
        return net_marks(layout, connect(layout), rule)

    def test_strangers_at_within_and_beyond(self):
        for layer in CONDUCTORS:
            for i, j in [(3, 0), (0, 3), (3, 3), (-3, 3), (3, -1), (-2, -3)]:
                shapes = [(layer, (0, 0, 1, 1)), (layer, (i, j, i + 1, j + 1))]
                both = region_of_squares({(0, 0), (i, j)})
                self.assertEqual(self.marks(shapes, ("strangers", layer, 2)), ())
                self.assertEqual(self.marks(shapes, ("strangers", layer, 3)), both)
                self.assertEqual(self.marks(shapes, ("strangers", layer, 1000)), both)
                self.assertEqual(self.marks(shapes, ("strangers", layer, 0)), ())

    def test_strangers_mark_only_the_near_squares(self):
        shapes = [("top", (0, 0, 9, 1)), ("top", (11, 0, 20, 1))]
        self.assertEqual(self.marks(shapes, ("strangers", "top", 3)), ((8, 0, 9, 1), (11, 0, 12, 1)))
        self.assertEqual(self.marks(shapes, ("strangers", "top", 5)), ((6, 0, 9, 1), (11, 0, 14, 1)))

    def test_pieces_of_one_net_are_no_strangers(self):
        shapes = STRIPS + [("top", (0, 0, 3, 1)), ("via", (0, 0, 3, 1))]
        self.assertEqual(self.marks(shapes, ("strangers", "metal", 5)), ())
        self.assertEqual(self.marks(shapes[:3], ("strangers", "metal", 5)), ((0, 0, 1, 1), (2, 0, 3, 1)))

    def test_strangers_on_other_layers_do_not_matter(self):
        shapes = [(layer, (0, 0, 1, 1)) for layer in ("poly", "metal", "top")] + [("active", (1, 0, 2, 1))]
        for layer in CONDUCTORS:
            self.assertEqual(self.marks(shapes, ("strangers", layer, 5)), ())

    def test_strangers_on_active_beside_a_channel(self):
        # The channel parts the active in two nets.
        shapes = [("active", (0, 0, 6, 2)), ("poly", (2, -1, 4, 3))]
        self.assertEqual(self.marks(shapes, ("strangers", "active", 2)), ())
        self.assertEqual(self.marks(shapes, ("strangers", "active", 3)), ((1, 0, 2, 2), (4, 0, 5, 2)))

    def test_many_strangers(self):
        shapes = [("metal", (3 * at, 0, 3 * at + 1, 1)) for at in range(40)]
        self.assertEqual(self.marks(shapes, ("strangers", "metal", 2)), ())
        self.assertEqual(len(self.marks(shapes, ("strangers", "metal", 3))), 40)
        # Of an odd number only the last two are near to each other.
        shapes = [("metal", (30 * at, 0, 30 * at + 1, 1)) for at in range(12)] + [("metal", (332, 0, 333, 1))]
        self.assertEqual(self.marks(shapes, ("strangers", "metal", 2)), ((330, 0, 331, 1), (332, 0, 333, 1)))

    def antenna(self, squares):
        """A gate with a channel of four squares and an antenna of so many squares on "metal"."""
        return [("active", (0, 0, 6, 2)), ("poly", (2, -1, 4, 3)), ("contact", (2, 2, 3, 3)),
                ("metal", (2, 2, 2 + squares, 3))]

    def test_antenna_of_exactly_n_times_and_one_more(self):
        for n in (1, 2, 5):
            self.assertEqual(self.marks(self.antenna(4 * n), ("antenna", "metal", n)), ())
            self.assertEqual(self.marks(self.antenna(4 * n + 1), ("antenna", "metal", n)), ((2, 2, 3 + 4 * n, 3),))
        # The poly of the gate has eight squares.
        self.assertEqual(self.marks(self.antenna(1), ("antenna", "poly", 2)), ())
        self.assertEqual(self.marks(self.antenna(1), ("antenna", "poly", 1)), ((2, -1, 4, 3),))

    def test_antennas_without_channels(self):
        shapes = self.antenna(9)[1:]
        self.assertEqual(self.marks(shapes, ("antenna", "metal", 1)), ())
        self.assertEqual(self.marks(shapes, ("antenna", "poly", 1)), ())
        # The ends of a transistor are no antennas, however large they are.
        large = [("active", (-50, 0, 60, 2)), ("poly", (2, -1, 4, 3))]
        self.assertEqual(self.marks(large, ("antenna", "active", 1)), ())

    def test_antenna_of_several_channels(self):
        shapes = self.antenna(12) + [("active", (0, 20, 6, 22)), ("poly", (2, 3, 4, 23))]
        self.assertEqual(self.marks(shapes, ("antenna", "metal", 1)), ((2, 2, 14, 3),))
        shapes[4:] = [("active", (0, 20, 6, 24)), ("poly", (2, 3, 4, 24))]
        self.assertEqual(self.marks(shapes, ("antenna", "metal", 1)), ())

    def test_antenna_over_pieces_on_several_places(self):
        shapes = self.antenna(3) + [("contact", (2, -1, 3, 0)), ("metal", (-3, -1, 3, 0))]
        self.assertEqual(self.marks(shapes, ("antenna", "metal", 2)), ((-3, -1, 3, 0), (2, 2, 5, 3)))
        self.assertEqual(self.marks(shapes, ("antenna", "metal", 3)), ())

    def test_antenna_on_active_that_is_tied_to_its_gate(self):
        shapes = self.antenna(3)[:3] + [("metal", (0, 2, 3, 3)), ("metal", (0, 0, 1, 3)), ("contact", (0, 0, 1, 1))]
        self.assertEqual(self.marks(shapes, ("antenna", "active", 1)), ())
        shapes.append(("active", (-1, 0, 0, 1)))
        self.assertEqual(self.marks(shapes, ("antenna", "active", 1)), ((-1, 0, 2, 1), (0, 1, 2, 2)))

    def test_channels_that_are_not_well_formed(self):
        # The poly ends inside of the active.
        shapes = [("active", (0, 0, 6, 2)), ("poly", (2, 0, 4, 1)), ("poly", (2, -9, 3, 0))]
        self.assertEqual(self.marks(shapes, ("antenna", "poly", 5)), ((2, -9, 3, 0), (2, 0, 4, 1)))
        self.assertEqual(self.marks(shapes, ("antenna", "poly", 6)), ())

    def test_tied(self):
        shapes = STRIPS + [("top", (0, 0, 1, 1)), ("via", (0, 0, 1, 1)), ("poly", (2, 0, 3, 1))]
        self.assertEqual(self.marks(shapes, ("tied", "metal")), ((0, 0, 1, 1), (2, 0, 3, 1)))
        # A label on any layer of the net.
        self.assertEqual(self.marks(shapes, ("tied", "metal"), [("a", "top", 0, 0)]), ((2, 0, 3, 1),))
        self.assertEqual(self.marks(shapes, ("tied", "top"), [("a", "metal", 0, 0), ("b", "metal", 0, 0)]), ())
        self.assertEqual(self.marks(shapes, ("tied", "metal"), [("a", "poly", 2, 0)]), ((0, 0, 1, 1), (2, 0, 3, 1)))
        # Loose labels do not count.
        self.assertEqual(self.marks(shapes, ("tied", "top"), [("a", "top", 1, 0), ("a", "poly", 0, 0)]), ((0, 0, 1, 1),))

    def test_nothing(self):
        for rule in RULES:
            self.assertEqual(self.marks([], rule), ())
            self.assertEqual(self.marks([("well", (0, 0, 9, 9)), ("via", (0, 0, 9, 9)), ("contact", (0, 0, 9, 9))], rule), ())

    def test_huge(self):
        shapes = [("metal", (-HUGE, 0, HUGE, HUGE)), ("metal", (HUGE + 1000, 5, 2 * HUGE, 6)), ("active", (0, 0, 6, 2)),
                  ("poly", (2, -HUGE, 4, HUGE))]
        self.assertEqual(self.marks(shapes, ("strangers", "metal", 1000)), ())
        self.assertEqual(self.marks(shapes[:1] + [("metal", (HUGE + 999, 5, 2 * HUGE, 6))], ("strangers", "metal", 1000)),
                         ((HUGE - 1, 0, HUGE, 5), (HUGE - 1, 5, HUGE, 6), (HUGE + 999, 5, HUGE + 1000, 6),
                          (HUGE - 1, 6, HUGE, 1006)))
        self.assertEqual(self.marks(shapes, ("antenna", "poly", 1000)), ((2, -HUGE, 4, HUGE),))
        self.assertEqual(self.marks(shapes, ("tied", "metal"), [("a", "metal", -HUGE, 0)]), ((HUGE + 1000, 5, 2 * HUGE, 6),))


class CheckNets(unittest.TestCase):
    def test_example(self):
        self.assertEqual(check_nets(Layout(STRIPS, []), [("strangers", "metal", 1), ("strangers", "metal", 2)]),
                         [(), ((0, 0, 1, 1), (2, 0, 3, 1))])

    def test_one_region_for_each_rule_in_order(self):
        for shapes, labels in samples(10, seed=3):
            layout = Layout(shapes, labels)
            wiring = connect(layout)
            self.assertEqual(check_nets(layout, RULES), [net_marks(layout, wiring, rule) for rule in RULES])
            self.assertEqual(check_nets(layout, RULES[::-1]), check_nets(layout, RULES)[::-1])

    def test_no_rules(self):
        self.assertEqual(check_nets(Layout(STRIPS, []), []), [])

    def test_wrong_rules(self):
        right = [("tied", "metal"), ("strangers", "top", 0)]
        for rule in [("strangers", "metal", -1), ("strangers", "well", 1), ("antenna", "metal", 0), ("antenna", "poly", 1001),
                     ("tied", "via"), ("tied", "steel")]:
            for rules, index in [([rule], 0), (right + [rule], 2), ([right[0], rule, right[1], ("tied", "")], 1)]:
                copy = list(rules)
                with self.assertRaises(InvalidNetRule) as caught:
                    check_nets(Layout(STRIPS, []), rules)
                self.assertIs(type(caught.exception), InvalidNetRule)
                self.assertEqual(caught.exception.index, index)
                self.assertEqual(rules, copy)

    def test_lists_are_new_and_nothing_is_changed(self):
        rules, layout = [("tied", "metal")], Layout(STRIPS, [])
        found = check_nets(layout, rules)
        self.assertIsInstance(found, list)
        found.append("x")
        self.assertEqual(len(check_nets(layout, rules)), 1)
        self.assertEqual((rules, layout), ([("tied", "metal")], Layout(STRIPS, [])))

    def test_cut_otherwise(self):
        source = random.Random(4)
        for shapes, labels in samples(20, seed=5):
            other = Layout(cut_shapes(source, shapes), labels[::-1] + labels)
            self.assertEqual(check_nets(other, RULES), check_nets(Layout(shapes, labels), RULES))

    def test_moved(self):
        for turn in range(TURN_COUNT):
            move = (turn, HUGE, 7 - turn)
            for shapes, labels in samples(4, seed=6 + turn):
                layout = Layout(shapes, labels)
                expected = [move_region(move, region) for region in check_nets(layout, RULES)]
                self.assertEqual(check_nets(layout.moved(move), RULES), expected)


if __name__ == "__main__":
    unittest.main()
