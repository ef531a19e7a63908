"""Every example of the interface, as the document writes it."""

import unittest

import reticle.errors

EXAMPLES = r'''
>>> from reticle.moves import move_box
>>> move_box((1, 10, 0), (0, 0, 3, 1))
(9, 0, 10, 3)

>>> from reticle.moves import chain
>>> chain((4, 0, 0), (1, 2, 0))
(5, 2, 0)

>>> from reticle.boxes import overlap
>>> overlap((0, 0, 4, 4), (2, 3, 9, 9))
(2, 3, 4, 4)

>>> from reticle.regions import region_of
>>> region_of([(0, 0, 2, 2), (1, 1, 3, 3)])
((0, 0, 2, 1), (0, 1, 3, 2), (1, 2, 3, 3))

>>> from reticle.sizing import gaps
>>> gaps(((0, 0, 1, 1), (2, 0, 3, 1)), 2)
((0, 0, 3, 1),)

>>> from reticle.sizing import opened
>>> opened(((0, 0, 4, 2), (0, 2, 1, 5)), 2)
((0, 0, 4, 2),)

>>> from reticle.pieces import pieces
>>> pieces(((0, 0, 1, 1), (1, 1, 2, 2)))
[((0, 0, 1, 1),), ((1, 1, 2, 2),)]

>>> from reticle.pieces import outline_length
>>> outline_length(((0, 0, 2, 1), (0, 1, 1, 2)))
8

>>> from reticle.cells import Cell, Library
>>> from reticle.flattening import flatten
>>> inner = Cell("bar", [("metal", (0, 0, 3, 1))], [("a", "metal", 0, 0)], [])
>>> outer = Cell("top", [], [], [("bar", (1, 10, 0), 2, 1, 5, 0)])
>>> flatten(Library([inner, outer]), "top").region("metal")
((9, 0, 10, 3), (14, 0, 15, 3))

>>> from reticle.cells import Cell, Library
>>> Library([Cell("top", [], [], [("bar", (0, 0, 0), 1, 1, 0, 0)]), Cell("bar", [], [], [])])
raises InvalidLibrary

>>> from reticle.librarytext import parse_library, format_library
>>> format_library(parse_library("cell bar\nshape metal 0 0 3 1\nlabel a metal 0 0\ncell top\nplace bar 1 10 0 2 1 5 0"))
'cell bar\nshape metal 0 0 3 1\nlabel a metal 0 0\ncell top\nplace bar 1 10 0 2 1 5 0'

>>> from reticle.librarytext import parse_library
>>> parse_library("cell bar\nshape metal 0 0 0 1")
raises InvalidText

>>> from reticle.stores import Store
>>> store = Store()
>>> first = store.add("metal", (0, 0, 4, 1))
>>> second = store.add("metal", (6, 0, 9, 1))
>>> store.find("metal", (3, 0, 7, 2))
[0, 1]

>>> from reticle.stores import Store
>>> Store().undo()
raises NothingToUndo

>>> from reticle.layouts import Layout
>>> from reticle.checking import check
>>> layout = Layout([("metal", (0, 0, 4, 2)), ("metal", (0, 2, 1, 5))], [])
>>> check(layout, [("width", "metal", 2), ("area", "metal", 12)])
[((0, 2, 1, 5),), ((0, 0, 4, 2), (0, 2, 1, 5))]

>>> from reticle.layouts import Layout
>>> from reticle.checking import check
>>> check(Layout([], []), [("width", "metal", 2), ("width", "steel", 2)])
raises InvalidRule

>>> from reticle.layouts import Layout
>>> from reticle.wiring import connect
>>> layout = Layout([("poly", (0, 0, 1, 4)), ("metal", (0, 3, 5, 4)), ("contact", (0, 3, 1, 4))], [("a", "metal", 4, 3)])
>>> wiring = connect(layout)
>>> [len(wiring), wiring.net_at("poly", 0, 0), wiring.names_on(0)]
[1, 0, ['a']]

>>> from reticle.layouts import Layout
>>> from reticle.wiring import connect
>>> connect(Layout([("active", (0, 0, 6, 2)), ("poly", (2, -1, 4, 3))], [])).parts(1)
[('active', ((4, 0, 6, 2),))]

>>> from reticle.layouts import Layout
>>> from reticle.extracting import extract
>>> extract(Layout([("active", (0, 0, 6, 2)), ("poly", (2, -1, 4, 3))], [("g", "poly", 2, -1)])).devices
(('n', 2, 0, 1, 2, 2),)

>>> from reticle.layouts import Layout
>>> from reticle.extracting import extract
>>> extract(Layout([("active", (0, 0, 6, 2)), ("poly", (2, 0, 4, 1))], []))
raises BadChannel

>>> from reticle.circuits import Circuit
>>> from reticle.reducing import merged
>>> merged(Circuit(3, [], [("n", 0, 1, 2, 4, 2), ("p", 0, 1, 2, 4, 2), ("n", 0, 1, 2, 3, 2)])).devices
(('n', 0, 1, 2, 7, 2), ('p', 0, 1, 2, 4, 2))

>>> from reticle.circuittext import parse_circuit
>>> parse_circuit("nets 2\nname a 0\ndevice n 0 2 1 1 1")
raises InvalidText

>>> from reticle.circuits import Circuit
>>> from reticle.comparing import compare
>>> first = Circuit(3, [(0, "a")], [("n", 0, 1, 2, 4, 2)])
>>> second = Circuit(3, [(2, "a")], [("n", 2, 0, 1, 4, 3)])
>>> compare(first, second)
('different', ('count', 0))

>>> from reticle.circuits import Circuit
>>> from reticle.matching import is_match
>>> first = Circuit(3, [(0, "a")], [("n", 0, 1, 2, 4, 2)])
>>> second = Circuit(3, [(2, "a")], [("n", 2, 0, 1, 4, 2)])
>>> is_match(first, second, ((2, 1, 0), (0,)))
True

>>> from reticle.outlines import outlines
>>> outlines(((0, 0, 2, 1), (0, 1, 1, 2)))
[((0, 0), (2, 0), (2, 1), (1, 1), (1, 2), (0, 2))]

>>> from reticle.outlines import signed_area
>>> signed_area(((0, 0), (0, 2), (3, 2), (3, 0)))
-6

>>> from reticle.layouts import Layout
>>> from reticle.routing import wire
>>> layout = Layout([("metal", (0, 0, 1, 1)), ("metal", (3, 0, 4, 1))], [])
>>> wire(layout, 0, 1, window=(0, 0, 4, 1))
[(0, 0), (1, 0), (2, 0), (3, 0)]

>>> from reticle.layouts import Layout
>>> from reticle.routing import wire
>>> layout = Layout([("metal", (0, 0, 1, 1)), ("metal", (2, -5, 3, 5)), ("metal", (4, 0, 5, 1))], [])
>>> wire(layout, 1, 2, window=(0, -2, 5, 3))
raises NoWire

>>> from reticle.cells import Cell, Library
>>> from reticle.circuits import Circuit
>>> from reticle.signoff import sign_off
>>> cell = Cell("gate", [("active", (0, 0, 6, 2)), ("poly", (2, -1, 4, 3))], [("g", "poly", 2, -1)], [])
>>> schematic = Circuit(3, [(0, "g")], [("n", 0, 1, 2, 2, 2)])
>>> report = sign_off(Library([cell]), "gate", [("width", "poly", 2)], schematic)
>>> report.text()
'rule 0 0\nsame'

>>> from reticle.layouts import Layout
>>> from reticle.decktext import parse_deck
>>> from reticle.deriving import check_deck
>>> deck = parse_deck("layer gate active and poly\nlayer ring grow 1 gate minus ( gate or well )\nrule width gate 3\nrule never ring metal")
>>> check_deck(Layout([("active", (0, 0, 6, 2)), ("poly", (2, -1, 4, 3))], []), deck)
[((2, 0, 4, 2),), ()]

>>> from reticle.decktext import parse_deck
>>> parse_deck("layer gate active and poly\nrule width gates 3")
raises InvalidText

>>> from reticle.schematictext import parse_schematic
>>> from reticle.expanding import expand
>>> text = "block inv a y vdd gnd\ndevice n a gnd y 2 1\ndevice p a vdd y 4 1\nblock buf a y vdd gnd\nuse inv a m vdd gnd\nuse inv m y vdd gnd"
>>> expand(parse_schematic(text), "buf").devices
(('n', 0, 3, 4, 2, 1), ('p', 0, 2, 4, 4, 1), ('n', 4, 1, 3, 2, 1), ('p', 4, 1, 2, 4, 1))

>>> from reticle.schematictext import parse_schematic
>>> from reticle.expanding import expand
>>> from reticle.behaviour import table
>>> circuit = expand(parse_schematic("block inv a y vdd gnd\ndevice n a gnd y 2 1\ndevice p a vdd y 4 1"), "inv")
>>> table(circuit, ["a"], "y")
['1', '0']

>>> from reticle.layouts import Layout
>>> from reticle.netrules import check_nets
>>> check_nets(Layout([("metal", (0, 0, 1, 1)), ("metal", (2, 0, 3, 1))], []), [("strangers", "metal", 1), ("strangers", "metal", 2)])
[(), ((0, 0, 1, 1), (2, 0, 3, 1))]

>>> from reticle.packing import pack
>>> pack([(5, 0, 7, 2), (12, 1, 13, 5), (9, 4, 11, 6)], gap=1)
[(0, 0, 2, 2), (3, 1, 4, 5), (0, 4, 2, 6)]

>>> from reticle.telling import tell
>>> tell(("different", ("choose", 1, 0, ((0, ("count", 1)), (2, ("count", 2))))))
'different\nchoose 1 0\ncase 0\n  count 1\ncase 2\n  count 2'
'''.strip("\n").split("\n\n")


def outcome(lines):
    """What the last of some lines gives, as an example shows it."""
    names = {}
    for line in lines[:-1]:
        exec(line, names)
    try:
        return repr(eval(lines[-1], names))
    except reticle.errors.ReticleError as error:
        return f"raises {type(error).__name__}"


class Examples(unittest.TestCase):
    def test_each_one(self):
        self.assertEqual(len(EXAMPLES), 36)
        for example in EXAMPLES:
            *lines, expected = example.split("\n")
            self.assertEqual(outcome([line.removeprefix(">>> ") for line in lines]), expected, example)


if __name__ == "__main__":
    unittest.main()
