"""Points 54 to 56: signing off."""

import random
import unittest

from reticle.cells import Cell, Library
from reticle.checking import check
from reticle.circuits import Circuit
from reticle.comparing import compare
from reticle.errors import BadChannel, InvalidCircuit, InvalidRule, Shorted, Split, TooLarge, UnknownCell
from reticle.extracting import extract
from reticle.flattening import flatten
from reticle.moves import move_box, move_square
from reticle.reducing import merged, pruned
from reticle.regions import area, move_region
from reticle.signoff import Report, sign_off
from tests.helpers import HUGE, TURN_COUNT, cut_shapes, drawn, mixed_up, random_circuit, rings

ACROSS = [("active", (0, 0, 6, 2)), ("poly", (2, -1, 4, 3))]

GATE = Cell("gate", ACROSS, [("g", "poly", 2, -1)], [])

PLAN = Circuit(3, [(0, "g")], [("n", 0, 1, 2, 2, 2)])

# Not well formed: the poly ends inside of the active.
BAD = [("active", (100, 0, 106, 2)), ("poly", (102, 0, 104, 1))]

SHORTED = [("b", "metal", 0, 50), ("a", "metal", 1, 50)]

SPLIT = [("z", "metal", 0, 60), ("z", "metal", 0, 70)]

STRIPS = [("metal", (0, y, 9, y + 1)) for y in (50, 60, 70)]

DECK = [("width", "poly", 3), ("area", "active", 13), ("space", "metal", 3), ("cover", "poly", "active", 0)]


def library_of(shapes, labels=()):
    """A library with one cell, called "top"."""
    return Library([Cell("top", shapes, list(labels), [])])


def parts_of(report):
    """What can be compared of a report."""
    return (report.marks, report.circuit, report.schematic, report.answer, report.is_clean, report.text())


def rows_of_transistors(sizes):
    """The shapes of transistors "n" of these widths and lengths, side by side, and the labels of their gates."""
    shapes, labels = [], []
    for at, (width, length) in enumerate(sizes):
        x = 100 * at
        shapes.extend([("active", (x, 0, x + 20 + length, width)), ("poly", (x + 10, -5, x + 10 + length, width + 5))])
        labels.append((f"g{at}", "poly", x + 10, -5))
    return shapes, labels


class Steps(unittest.TestCase):
    def signed(self, library, name, deck, schematic, **more):
        """The report, compared with what the single modules say."""
        report = sign_off(library, name, deck, schematic, **more)
        layout = flatten(library, name)
        circuit, wanted = pruned(merged(extract(layout))), pruned(merged(schematic))
        self.assertIsInstance(report, Report)
        self.assertEqual(report.marks, check(layout, deck))
        self.assertEqual(report.circuit, circuit)
        self.assertEqual(report.schematic, wanted)
        self.assertEqual(report.answer, compare(circuit, wanted))
        lines = [f"rule {index} {area(region)}" for index, region in enumerate(check(layout, deck))]
        self.assertEqual(report.text(), "\n".join(lines + [report.answer[0]]))
        clean = not any(report.marks) and report.answer[0] == "same"
        self.assertIs(report.is_clean, clean)
        return report

    def test_example(self):
        report = self.signed(Library([GATE]), "gate", [("width", "poly", 2)], PLAN)
        self.assertEqual(report.text(), "rule 0 0\nsame")
        self.assertEqual(report.marks, [()])
        self.assertIs(report.is_clean, True)
        self.assertEqual(report.answer, ("same", ((1, 2, 0), (0,))))

    def test_marks_are_no_error(self):
        report = self.signed(Library([GATE]), "gate", DECK, PLAN)
        self.assertEqual(report.text(), "rule 0 8\nrule 1 12\nrule 2 0\nrule 3 4\nsame")
        self.assertIs(report.is_clean, False)

    def test_different_circuits(self):
        other = Circuit(3, [(0, "g")], [("n", 0, 1, 2, 2, 3)])
        report = self.signed(Library([GATE]), "gate", [("width", "poly", 2)], other)
        self.assertEqual(report.text(), "rule 0 0\ndifferent")
        self.assertEqual(report.answer, ("different", ("count", 0)))
        self.assertIs(report.is_clean, False)
        self.assertEqual(self.signed(Library([GATE]), "gate", DECK[:1], other).text(), "rule 0 8\ndifferent")

    def test_without_rules(self):
        self.assertEqual(self.signed(Library([GATE]), "gate", [], PLAN).text(), "same")
        self.assertEqual(self.signed(Library([GATE]), "gate", [], Circuit(0, [], [])).text(), "different")
        self.assertIs(sign_off(Library([GATE]), "gate", [], PLAN).is_clean, True)

    def test_an_empty_cell(self):
        library = Library([Cell("none", [], [], [])])
        report = self.signed(library, "none", DECK, Circuit(5, [], []))
        # The nets that are not used are removed from both circuits.
        self.assertEqual(report.schematic, Circuit(0, [], []))
        self.assertEqual(report.text(), "rule 0 0\nrule 1 0\nrule 2 0\nrule 3 0\nsame")

    def test_marks_of_many_squares(self):
        library = library_of([("metal", (0, 0, 2 * HUGE, HUGE)), ("via", (0, 0, 1500, 1000))])
        report = self.signed(library, "top", [("never", "metal", "via"), ("never", "via", "metal"), ("area", "top", 9),
                                              ("apart", "metal", "via", 1000)], Circuit(0, [], []))
        self.assertEqual(report.text(), "rule 0 1500000\nrule 1 1500000\nrule 2 0\nrule 3 5000000\nsame")
        report = self.signed(library, "top", [("size", "metal", 5, 5)], Circuit(0, [], []))
        self.assertEqual(report.text(), f"rule 0 {2 * HUGE * HUGE}\nsame")

    def test_both_circuits_are_merged_and_pruned(self):
        # Two transistors in parallel, and strips that are not used.
        shapes = [("active", (0, 0, 20, 3)), ("active", (0, 10, 20, 14)), ("poly", (9, -2, 11, 20)),
                  ("contact", (1, 1, 2, 2)), ("contact", (1, 11, 2, 12)), ("metal", (1, 0, 2, 14)),
                  ("contact", (18, 1, 19, 2)), ("contact", (18, 11, 19, 12)), ("metal", (18, 0, 19, 14))] + STRIPS
        wanted = Circuit(9, [(7, "a")], [("n", 8, 1, 7, 3, 2), ("n", 8, 1, 7, 1, 2), ("n", 8, 1, 7, 3, 2)])
        report = self.signed(library_of(shapes, [("a", "metal", 1, 0)]), "top", [], wanted)
        self.assertEqual(report.circuit, Circuit(3, [(0, "a")], [("n", 2, 0, 1, 7, 2)]))
        self.assertEqual(report.schematic, Circuit(3, [(1, "a")], [("n", 2, 0, 1, 7, 2)]))
        self.assertEqual(report.text(), "same")

    def test_the_extracted_circuit_is_the_first_one(self):
        shapes, labels = rows_of_transistors([(2, 3), (4, 5)])
        wanted = Circuit(6, [(5, "g0"), (0, "g1")], [("n", 0, 1, 2, 4, 5), ("n", 5, 3, 4, 2, 3)])
        report = self.signed(library_of(shapes, labels), "top", [], wanted)
        self.assertEqual(report.answer[0], "same")
        nets, devices = report.answer[1]
        self.assertEqual(devices, (1, 0))
        self.assertEqual([nets[4], nets[5]], [5, 0])

    def test_random_rows(self):
        source = random.Random(1)
        words = []
        for _ in range(15):
            sizes = [(source.randint(1, 2), source.randint(1, 2)) for _ in range(source.randint(1, 4))]
            shapes, labels = rows_of_transistors(sizes)
            kept = labels[:source.randint(0, len(labels))]
            devices = [("n", 3 * at, 3 * at + 1, 3 * at + 2, *size) for at, size in enumerate(sizes)]
            if source.random() < 0.4:
                devices[-1] = (*devices[-1][:4], 2, 2)
            wanted = Circuit(3 * len(sizes), [(3 * at, label[0]) for at, label in enumerate(kept)], devices)
            deck = source.sample(DECK, source.randint(0, 4))
            words.append(self.signed(library_of(shapes, kept), "top", deck, wanted).answer[0])
        self.assertEqual(sorted(set(words)), ["different", "same"])

    def test_drawn_circuits(self):
        source = random.Random(4)
        for _ in range(25):
            circuit = random_circuit(source, source.randint(1, 9), source.randint(0, 9), sizes=2, names=3)
            report = self.signed(library_of(*drawn(circuit)), "top", [], mixed_up(source, circuit)[0])
            self.assertEqual(report.text(), "same")
            other = random_circuit(source, circuit.net_count, len(circuit.devices), sizes=2, names=3)
            self.signed(library_of(*drawn(circuit)), "top", DECK, other)

    def test_rings(self):
        for sizes, others, word in [((3, 4), (4, 3), "same"), ((6,), (3, 3), "different")]:
            report = self.signed(library_of(*drawn(rings(*sizes))), "top", [], rings(*others))
            self.assertEqual(report.text(), word)

    def test_lists_are_new_and_nothing_is_changed(self):
        deck = list(DECK)
        report = sign_off(Library([GATE]), "gate", deck, PLAN)
        self.assertIsInstance(report.marks, list)
        report.marks.append("x")
        self.assertEqual(deck, DECK)
        self.assertEqual(PLAN, Circuit(3, [(0, "g")], [("n", 0, 1, 2, 2, 2)]))
        self.assertEqual(len(sign_off(Library([GATE]), "gate", deck, PLAN).marks), 4)
        marks = [()]
        made = Report(marks, PLAN, PLAN, ("same", ((0, 1, 2), (0,))))
        marks.append(((0, 0, 1, 1),))
        self.assertIs(made.is_clean, True)

    def test_fields_and_methods(self):
        report = sign_off(Library([GATE]), "gate", [], PLAN)
        for field in ("marks", "circuit", "schematic", "answer"):
            self.assertIn(field, vars(report))
        self.assertIsInstance(vars(Report)["is_clean"], property)
        self.assertIn("text", vars(Report))


class Errors(unittest.TestCase):
    def raised(self, error_class, library, name, deck, schematic=PLAN, **more):
        with self.assertRaises(error_class) as caught:
            sign_off(library, name, deck, schematic, **more)
        self.assertIs(type(caught.exception), error_class)
        return caught.exception

    def wrong_cell(self, copies=1, last=()):
        """A library whose cell has everything wrong, and so many copies of it."""
        part = Cell("part", ACROSS + BAD + STRIPS, SHORTED + SPLIT, [])
        return Library([part, Cell("top", list(last), [], [("part", (0, 0, 0), 1, copies, 0, 1000)])])

    def test_unknown_cell(self):
        self.assertEqual(self.raised(UnknownCell, Library([GATE]), "top", [("width", "steel", 1)]).name, "top")
        self.assertEqual(self.raised(UnknownCell, Library([]), "", []).name, "")

    def test_too_large(self):
        strip = Cell("strip", [("metal", (0, 0, 1, 1))], [], [])
        full = Cell("full", [], [], [("strip", (0, 0, 0), 100, 100, 5, 5)])
        over = Cell("over", [("metal", (0, 0, 1, 1))], [], [("full", (0, 0, 0), 1, 1, 0, 0)])
        library = Library([strip, full, over])
        error = self.raised(TooLarge, library, "over", [("width", "steel", 1)])
        self.assertEqual(error.limit, 10000)
        named = Cell("named", [], [("a", "metal", 0, 0)], [])
        labels = Cell("labels", [], [], [("named", (0, 0, 0), 100, 100, 0, 0), ("named", (0, 0, 0), 1, 1, 0, 0)])
        self.assertEqual(self.raised(TooLarge, Library([named, labels]), "labels", [], limit=1).limit, 10000)

    def test_invalid_rule(self):
        deck = [DECK[0], DECK[1], ("apart", "poly", "poly", 1), ("width", "steel", 1)]
        self.assertEqual(self.raised(InvalidRule, self.wrong_cell(), "top", deck).index, 2)
        self.assertEqual(self.raised(InvalidRule, Library([GATE]), "gate", [("area", "metal", 0)]).index, 0)

    def test_bad_channel(self):
        error = self.raised(BadChannel, self.wrong_cell(2), "top", DECK)
        self.assertEqual(error.region, ((102, 0, 104, 1),))

    def test_shorted(self):
        library = library_of(ACROSS + STRIPS, SHORTED + SPLIT)
        self.assertEqual(self.raised(Shorted, library, "top", DECK).names, ["a", "b"])

    def test_split(self):
        many = [("metal", (0, 1000 + 2 * at, 1, 1001 + 2 * at)) for at in range(201)]
        library = library_of(ACROSS + STRIPS + many, SPLIT)
        self.assertEqual(self.raised(Split, library, "top", DECK).name, "z")

    def test_invalid_circuit(self):
        many = [("metal", (0, 2 * at, 1, 2 * at + 1)) for at in range(201)]
        # Nets that pruning would remove count, too.
        self.raised(InvalidCircuit, library_of(many), "top", DECK, Circuit(0, [], []))
        self.raised(InvalidCircuit, library_of(many), "top", [], rings(3, 3), limit=1)
        report = sign_off(library_of(many[:200]), "top", [], Circuit(0, [], []))
        self.assertEqual(report.text(), "same")
        sizes = [(1, 1)] * 67
        self.raised(InvalidCircuit, library_of(rows_of_transistors(sizes)[0]), "top", [], Circuit(0, [], []))

    def test_search_given_up(self):
        # Two equal transistors that no name tells apart.
        library = library_of(rows_of_transistors([(1, 1), (1, 1)])[0])
        wanted = Circuit(6, [], [("n", 0, 1, 2, 1, 1), ("n", 3, 4, 5, 1, 1)])
        self.assertEqual(self.raised(TooLarge, library, "top", DECK, wanted, limit=1).limit, 1)
        self.assertEqual(self.raised(TooLarge, library, "top", DECK, wanted, limit=3).limit, 3)
        self.assertEqual(sign_off(library, "top", [], wanted, limit=4).answer[0], "same")

    def test_a_thousand_lists_if_nothing_is_said(self):
        library = library_of(*drawn(rings(*[3] * 16)))
        self.assertEqual(sign_off(library, "top", [], rings(*[3] * 16)).answer[0], "same")
        self.assertEqual(self.raised(TooLarge, library, "top", [], rings(*[3] * 14, 6)).limit, 1000)
        with self.assertRaises(TypeError):
            sign_off(Library([GATE]), "gate", [], PLAN, 5)


class WhatTheReportDependsOn(unittest.TestCase):
    def test_cut_overlapped_and_ordered_otherwise(self):
        source = random.Random(2)
        for _ in range(12):
            sizes = [(source.randint(1, 3), source.randint(1, 3)) for _ in range(3)]
            shapes, labels = rows_of_transistors(sizes)
            wanted = Circuit(9, [], [("n", 3 * at, 3 * at + 1, 3 * at + 2, *size) for at, size in enumerate(sizes)])
            first = sign_off(library_of(shapes, labels[:1]), "top", DECK, wanted)
            second = sign_off(library_of(cut_shapes(source, shapes), labels[:1] * 2), "top", DECK, wanted)
            self.assertEqual(parts_of(first), parts_of(second))

    def test_nested_otherwise(self):
        plain, names = rows_of_transistors([(2, 2), (2, 2), (2, 2)])
        cells = [
            Cell("bar", [("active", (0, 0, 22, 1))], [], []),
            Cell("body", [], [], [("bar", (0, 0, 0), 1, 2, 0, 1)]),
            Cell("line", [("poly", (-6, 0, -4, 6)), ("poly", (-6, 2, -4, 12))], [], []),
            Cell("row", [], names[1:2], [("body", (0, 0, 0), 3, 1, 100, 0), ("line", (2, 6, 7), 3, 1, 100, 0)]),
            Cell("top", [], [names[0]], [("row", (0, 0, 0), 1, 1, 0, 0)]),
        ]
        library = Library(cells)
        wanted = Circuit(9, [(1, "g0")], [("n", 1, 2, 3, 2, 2)])
        self.assertEqual(flatten(library, "top"), flatten(library_of(plain, names[:2]), "top"))
        self.assertEqual(parts_of(sign_off(library, "top", DECK, wanted)),
                         parts_of(sign_off(library_of(plain, names[:2]), "top", DECK, wanted)))

    def test_moved_cells(self):
        source = random.Random(3)
        for turn in range(TURN_COUNT):
            sizes = [(source.randint(1, 3), source.randint(1, 3)) for _ in range(3)]
            shapes, labels = rows_of_transistors(sizes)
            devices = [("n", 3 * at, 3 * at + 1, 3 * at + 2, *size) for at, size in enumerate(sizes)]
            if turn % 2 == 1:
                devices[0] = (*devices[0][:4], 9, 9)
            wanted = Circuit(9, [(0, "g0"), (3, "g1"), (6, "g2")], devices)
            move = (turn, source.randint(-99, 99), HUGE)
            first = sign_off(library_of(shapes, labels), "top", DECK, wanted)
            moved = [(layer, move_box(move, box)) for layer, box in shapes]
            images = [(name, layer, *move_square(move, x, y)) for name, layer, x, y in labels]
            second = sign_off(library_of(moved, images), "top", DECK, wanted)
            placed = Library([Cell("top", shapes, labels, []), Cell("outer", [], [], [("top", move, 1, 1, 0, 0)])])
            third = sign_off(placed, "outer", DECK, wanted)
            self.assertEqual(first.answer[0], "different" if turn % 2 == 1 else "same")
            for report in (second, third):
                self.assertEqual(report.marks, [move_region(move, region) for region in first.marks])
                self.assertEqual(report.answer[0], first.answer[0])
                self.assertEqual(report.text(), first.text())


if __name__ == "__main__":
    unittest.main()
