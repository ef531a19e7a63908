"""Points 28 to 32: conductors, links, nets and labels."""

import random
import unittest

from reticle.layouts import LAYERS, Layout
from reticle.moves import move_square
from reticle.wiring import CONDUCTORS, Wiring, conductor, connect
from tests.helpers import (
    HUGE, TURN_COUNT, cut_shapes, piece_squares, random_move, random_shapes, region_of_squares,
)
from tests.plain import places_of, plain_nets, squares_on

EXAMPLE = Layout(
    [("poly", (0, 0, 1, 4)), ("metal", (0, 3, 5, 4)), ("contact", (0, 3, 1, 4))], [("a", "metal", 4, 3)]
)


def plain_parts(nets, net):
    """The pieces of a net, each as a pair of its layer and its region."""
    parts = []
    for layer in CONDUCTORS:
        squares = {(x, y) for (other, x, y), number in nets.items() if other == layer and number == net}
        parts.extend((layer, region_of_squares(part)) for part in piece_squares(squares))
    return parts


def samples_of_shapes(count, most=4, size=5, longest=4, seed=1):
    """The same lists of shapes on all layers on each call."""
    source = random.Random(seed)
    return [random_shapes(source, LAYERS, most, size, longest) for _ in range(count)]


def wired(*shapes):
    """The wiring of shapes."""
    return connect(Layout(list(shapes), []))


class Conductors(unittest.TestCase):
    def test_the_four(self):
        self.assertEqual(CONDUCTORS, ("active", "poly", "metal", "top"))

    def test_against_the_squares(self):
        for shapes in samples_of_shapes(30):
            squares = squares_on(shapes)
            layout = Layout(shapes, [])
            self.assertEqual(conductor(layout, "active"), region_of_squares(squares["active"] - squares["poly"]))
            for layer in ("poly", "metal", "top"):
                self.assertEqual(conductor(layout, layer), layout.region(layer))

    def test_active_without_poly(self):
        layout = Layout([("active", (0, 0, 6, 2)), ("poly", (2, 0, 4, 1)), ("metal", (0, 0, 9, 9))], [])
        self.assertEqual(conductor(layout, "active"), ((0, 0, 2, 1), (4, 0, 6, 1), (0, 1, 6, 2)))
        self.assertEqual(conductor(layout, "poly"), ((2, 0, 4, 1),))


class Nets(unittest.TestCase):
    def test_examples(self):
        wiring = connect(EXAMPLE)
        self.assertEqual([len(wiring), wiring.net_at("poly", 0, 0), wiring.names_on(0)], [1, 0, ["a"]])
        other = connect(Layout([("active", (0, 0, 6, 2)), ("poly", (2, -1, 4, 3))], []))
        self.assertEqual(other.parts(1), [("active", ((4, 0, 6, 2),))])

    def test_against_the_places(self):
        for shapes in samples_of_shapes(40):
            nets = plain_nets(shapes)
            wiring = connect(Layout(shapes, []))
            self.assertIsInstance(wiring, Wiring)
            self.assertEqual(len(wiring), len(set(nets.values())))
            for layer in CONDUCTORS:
                for x in range(-7, 10):
                    for y in range(-7, 10):
                        self.assertEqual(wiring.net_at(layer, x, y), nets.get((layer, x, y)))
            for net in range(len(wiring)):
                self.assertEqual(wiring.parts(net), plain_parts(nets, net))

    def test_regions(self):
        for shapes in samples_of_shapes(15, seed=2):
            nets = plain_nets(shapes)
            wiring = connect(Layout(shapes, []))
            for net in range(len(wiring)):
                for layer in CONDUCTORS:
                    squares = {place[1:] for place, number in nets.items() if number == net and place[0] == layer}
                    self.assertEqual(wiring.region(net, layer), region_of_squares(squares))

    def test_nothing(self):
        self.assertEqual(len(wired()), 0)
        self.assertEqual(len(wired(("well", (0, 0, 9, 9)), ("contact", (0, 0, 1, 1)), ("via", (0, 0, 1, 1)))), 0)
        self.assertIsNone(wired().net_at("metal", 0, 0))

    def test_off_the_conductors(self):
        wiring = wired(("active", (0, 0, 6, 2)), ("poly", (2, -1, 4, 3)))
        self.assertIsNone(wiring.net_at("active", 2, 0))
        self.assertEqual(wiring.net_at("poly", 2, 0), 2)
        self.assertEqual(wiring.net_at("active", 1, 0), 0)
        self.assertIsNone(wiring.net_at("metal", 1, 0))
        self.assertIsNone(wiring.net_at("poly", HUGE, -HUGE))

    def test_contact(self):
        metal, active, poly = ("metal", (0, 0, 9, 1)), ("active", (0, 0, 3, 1)), ("poly", (5, 0, 7, 1))
        self.assertEqual(len(wired(metal, active, poly)), 3)
        self.assertEqual(len(wired(metal, active, poly, ("contact", (1, 0, 2, 1)))), 2)
        self.assertEqual(len(wired(metal, active, poly, ("contact", (6, 0, 7, 1)))), 2)
        # On "metal" above both of them.
        self.assertEqual(len(wired(metal, active, poly, ("contact", (2, 0, 6, 1)))), 1)
        self.assertEqual(len(wired(metal, active, poly, ("contact", (3, 0, 5, 1)))), 3)

    def test_contact_without_metal(self):
        touching = ("active", (0, 0, 3, 1)), ("poly", (3, 0, 6, 1))
        self.assertEqual(len(wired(*touching, ("contact", (0, 0, 6, 1)))), 2)
        self.assertEqual(len(wired(*touching, ("contact", (0, 0, 6, 1)), ("metal", (6, 0, 7, 1)))), 3)
        self.assertEqual(len(wired(*touching, ("contact", (0, 0, 6, 1)), ("top", (0, 0, 9, 1)))), 3)

    def test_contact_over_a_channel(self):
        # There "metal" is linked with "poly" only.
        wiring = wired(("active", (0, 0, 6, 2)), ("poly", (2, 0, 4, 2)), ("metal", (2, 0, 4, 2)), ("contact", (2, 0, 4, 2)))
        self.assertEqual([wiring.net_at("poly", 2, 0), wiring.net_at("metal", 2, 0)], [2, 2])
        self.assertEqual(len(wiring), 3)

    def test_via(self):
        metal, top, via = ("metal", (0, 0, 3, 1)), ("top", (2, 0, 5, 1)), ("via", (2, 0, 3, 1))
        self.assertEqual(len(wired(metal, top, via)), 1)
        self.assertEqual(len(wired(metal, top)), 2)
        self.assertEqual(len(wired(metal, top, ("contact", (2, 0, 3, 1)))), 2)
        self.assertEqual(len(wired(metal, ("top", (3, 0, 5, 1)), via)), 2)
        self.assertEqual(len(wired(("metal", (0, 0, 2, 1)), top, via)), 2)
        self.assertEqual(len(wired(metal, via)), 1)

    def test_via_does_not_link_lower_layers(self):
        shapes = ("metal", (0, 0, 1, 1)), ("poly", (0, 0, 1, 1)), ("active", (1, 0, 2, 1)), ("via", (0, 0, 2, 1))
        self.assertEqual(len(wired(*shapes)), 3)

    def test_corners_do_not_link(self):
        for layer in CONDUCTORS:
            self.assertEqual(len(wired((layer, (0, 0, 1, 1)), (layer, (1, 1, 2, 2)))), 2)
            self.assertEqual(len(wired((layer, (0, 0, 1, 1)), (layer, (1, 0, 2, 2)))), 1)
        # The contact is at a neighbour of "metal" only.
        self.assertEqual(len(wired(("metal", (0, 0, 1, 1)), ("poly", (0, 0, 3, 1)), ("contact", (1, 0, 2, 1)))), 2)

    def test_active_cut_in_two_by_poly(self):
        wiring = wired(("active", (0, 0, 6, 2)), ("poly", (2, 0, 4, 2)))
        self.assertEqual([wiring.parts(net) for net in range(3)],
                         [[("active", ((0, 0, 2, 2),))], [("active", ((4, 0, 6, 2),))], [("poly", ((2, 0, 4, 2),))]])
        self.assertEqual(len(wired(("active", (0, 0, 6, 2)), ("poly", (2, 0, 4, 1)))), 2)

    def test_numbers_in_the_order_of_the_first_pieces(self):
        wiring = wired(
            ("top", (0, 0, 1, 1)), ("metal", (0, 0, 1, 1)), ("via", (0, 0, 1, 1)),
            ("metal", (5, -3, 6, -2)), ("poly", (9, 9, 10, 10)), ("active", (7, 1, 8, 2)), ("active", (0, 5, 1, 6)),
        )
        places = [("active", 7, 1), ("active", 0, 5), ("poly", 9, 9), ("metal", 5, -3), ("metal", 0, 0), ("top", 0, 0)]
        self.assertEqual([wiring.net_at(*place) for place in places], [0, 1, 2, 3, 4, 4])

    def test_parts_in_their_order(self):
        metal = ("metal", (0, 0, 9, 1))
        wiring = wired(metal, ("contact", (0, 0, 9, 1)), ("active", (4, 0, 5, 1)), ("poly", (0, 0, 1, 1)),
                       ("poly", (8, -2, 9, 1)), ("top", (2, 0, 3, 1)), ("via", (2, 0, 3, 1)))
        self.assertEqual(wiring.parts(0), [
            ("active", ((4, 0, 5, 1),)), ("poly", ((8, -2, 9, 1),)), ("poly", ((0, 0, 1, 1),)),
            ("metal", ((0, 0, 9, 1),)), ("top", ((2, 0, 3, 1),)),
        ])
        self.assertEqual(wiring.region(0, "poly"), ((8, -2, 9, 0), (0, 0, 1, 1), (8, 0, 9, 1)))
        self.assertEqual(wired(metal).region(0, "top"), ())

    def test_new_lists(self):
        wiring = connect(EXAMPLE)
        for read in [lambda: wiring.parts(0), lambda: wiring.names_on(0), wiring.loose, wiring.shorted, wiring.split]:
            before = list(read())
            read().append("x")
            self.assertEqual(read(), before)

    def test_layout_stays(self):
        shapes = EXAMPLE.shapes()
        connect(EXAMPLE)
        self.assertEqual(EXAMPLE, Layout(shapes, [("a", "metal", 4, 3)]))

    def test_huge(self):
        wiring = wired(("metal", (-HUGE, 0, HUGE, 1)), ("poly", (HUGE - 1, -HUGE, HUGE, HUGE)),
                       ("contact", (0, -5, HUGE, 5)), ("top", (-HUGE, -HUGE, HUGE, HUGE)))
        self.assertEqual([wiring.net_at("poly", HUGE - 1, -HUGE), wiring.net_at("metal", -HUGE, 0)], [0, 0])
        self.assertEqual(len(wiring), 2)


def labelled(*labels):
    """The wiring of three strips on "metal", and a piece of "active" under "poly", with labels."""
    shapes = [("metal", (0, y, 9, y + 1)) for y in (0, 2, 4)]
    return connect(Layout(shapes + [("active", (20, 0, 26, 2)), ("poly", (22, 0, 24, 2))], list(labels)))


class Labels(unittest.TestCase):
    def test_names_on(self):
        wiring = labelled(("b", "metal", 3, 2), ("a", "metal", 8, 2), ("b", "metal", 0, 2), ("c", "poly", 23, 1))
        net = wiring.net_at("metal", 5, 2)
        self.assertEqual(wiring.names_on(net), ["a", "b"])
        self.assertEqual(wiring.names_on(wiring.net_at("metal", 0, 0)), [])
        self.assertEqual(wiring.names_on(wiring.net_at("poly", 22, 0)), ["c"])
        self.assertEqual([wiring.shorted(), wiring.split(), wiring.loose()], [[net], [], []])

    def test_loose(self):
        wiring = labelled(("z", "metal", 3, 1), ("a", "active", 22, 0), ("a", "poly", 0, 0), ("a", "top", 0, 0),
                          ("b", "active", 21, 0), ("a", "metal", 9, 0))
        self.assertEqual(wiring.loose(), [("a", "active", 22, 0), ("a", "metal", 9, 0), ("a", "poly", 0, 0),
                                          ("a", "top", 0, 0), ("z", "metal", 3, 1)])
        self.assertEqual(wiring.names_on(wiring.net_at("active", 20, 0)), ["b"])
        self.assertEqual([wiring.shorted(), wiring.split()], [[], []])

    def test_loose_labels_name_nothing(self):
        wiring = labelled(("a", "metal", 0, 0), ("a", "metal", 0, 1), ("b", "top", 0, 0))
        self.assertEqual([wiring.names_on(wiring.net_at("metal", 0, 0)), wiring.split(), wiring.shorted()], [["a"], [], []])

    def test_one_name_several_times_on_one_net(self):
        wiring = labelled(("a", "metal", 0, 0), ("a", "metal", 1, 0), ("a", "metal", 1, 0))
        self.assertEqual([wiring.shorted(), wiring.split()], [[], []])
        self.assertEqual(wiring.names_on(wiring.net_at("metal", 8, 0)), ["a"])

    def test_one_name_on_two_nets(self):
        wiring = labelled(("b", "metal", 0, 0), ("b", "poly", 23, 0), ("a", "metal", 0, 2), ("a", "metal", 0, 4),
                          ("c", "active", 20, 0))
        self.assertEqual([wiring.split(), wiring.shorted()], [["a", "b"], []])

    def test_shorted_in_ascending_order(self):
        wiring = labelled(*[(name, "metal", 0, y) for name in ("p", "q") for y in (4, 0)], ("r", "metal", 0, 2))
        self.assertEqual(wiring.shorted(), [wiring.net_at("metal", 0, 0), wiring.net_at("metal", 0, 4)])
        self.assertEqual(wiring.split(), ["p", "q"])

    def test_joined_pieces_are_neither_shorted_nor_split(self):
        layout = Layout(EXAMPLE.shapes(), [("a", "metal", 4, 3), ("a", "poly", 0, 0)])
        wiring = connect(layout)
        self.assertEqual([wiring.split(), wiring.shorted(), wiring.names_on(0)], [[], [], ["a"]])

    def test_against_the_places(self):
        source = random.Random(3)
        for shapes in samples_of_shapes(30, most=3, seed=4):
            labels = [(source.choice("abc"), source.choice(CONDUCTORS), source.randint(-5, 7), source.randint(-5, 7))
                      for _ in range(12)]
            nets, wiring = plain_nets(shapes), connect(Layout(shapes, labels))
            self.assertEqual(wiring.loose(), sorted({label for label in labels if label[1:] not in nets}))
            names = [sorted({label[0] for label in labels if nets.get(label[1:]) == net}) for net in range(len(wiring))]
            self.assertEqual([wiring.names_on(net) for net in range(len(wiring))], names)
            self.assertEqual(wiring.shorted(), [net for net, found in enumerate(names) if len(found) > 1])
            self.assertEqual(wiring.split(), [name for name in "abc" if sum(name in found for found in names) > 1])


class WhatNetsDependOn(unittest.TestCase):
    def test_shapes_cut_otherwise(self):
        source = random.Random(5)
        for shapes in samples_of_shapes(20, seed=6):
            first, second = connect(Layout(shapes, [])), connect(Layout(cut_shapes(source, shapes), []))
            self.assertEqual(len(first), len(second))
            for net in range(len(first)):
                self.assertEqual(first.parts(net), second.parts(net))

    def test_moved_layouts(self):
        source = random.Random(7)
        for at, shapes in enumerate(samples_of_shapes(16, most=3, seed=8)):
            move = (at % TURN_COUNT, *random_move(source)[1:])
            layout = Layout(shapes, [])
            first, second, partners = connect(layout), connect(layout.moved(move)), {}
            for layer, x, y in places_of(shapes):
                net, image = first.net_at(layer, x, y), second.net_at(layer, *move_square(move, x, y))
                self.assertIsNotNone(image)
                self.assertEqual(partners.setdefault(net, image), image)
            self.assertEqual(sorted(partners.values()), list(range(len(second))))


if __name__ == "__main__":
    unittest.main()
