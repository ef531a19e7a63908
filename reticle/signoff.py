"""Signing off cells: their rules are checked, and their circuits are compared with schematics."""

from reticle.checking import check
from reticle.comparing import compare
from reticle.extracting import extract
from reticle.flattening import flatten
from reticle.reducing import merged, pruned
from reticle.regions import area


class Report:
    """What signing off a cell found."""

    def __init__(self, marks, circuit, schematic, answer):
        self.marks = list(marks)
        self.circuit = circuit
        self.schematic = schematic
        self.answer = answer

    @property
    def is_clean(self):
        """True if no square is marked and the circuits are the same."""
        return all([region == () for region in self.marks]) and self.answer[0] == "same"

    def text(self):
        """A line for each rule with the number of marked squares, and one with the answer."""
        lines = [f"rule {index} {area(region)}" for index, region in enumerate(self.marks)]
        return "\n".join(lines + [self.answer[0]])


def sign_off(library, name, deck, schematic, *, limit=1000):
    """The Report on a cell of a library, for a list of rules and a circuit that the cell is to have."""
    layout = flatten(library, name)
    marks = check(layout, deck)
    extracted = pruned(merged(extract(layout)))
    wanted = pruned(merged(schematic))
    return Report(marks, extracted, wanted, compare(extracted, wanted, limit=limit))
