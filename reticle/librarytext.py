"""Written libraries."""

from reticle.cells import MOST_CELLS, Cell, Library, is_label, is_placement, is_shape
from reticle.errors import InvalidText
from reticle.layouts import is_name
from reticle.words import read_integers

# The number of words of a line, by its first word.
WORD_COUNTS = {"cell": 2, "shape": 6, "label": 5, "place": 9}

# The lines of a cell stand in this order.
LINE_ORDER = ("cell", "shape", "label", "place")


def shape_line(shape):
    """The line of a shape."""
    layer, (x0, y0, x1, y1) = shape
    return f"shape {layer} {x0} {y0} {x1} {y1}"


def label_line(label):
    """The line of a label."""
    name, layer, x, y = label
    return f"label {name} {layer} {x} {y}"


def place_line(placement):
    """The line of a placement."""
    name, (turn, dx, dy), columns, rows, step_x, step_y = placement
    return f"place {name} {turn} {dx} {dy} {columns} {rows} {step_x} {step_y}"


def cell_lines(cell):
    """The list of the lines of a cell."""
    lines = [f"cell {cell.name}"]
    lines.extend([shape_line(shape) for shape in cell.shapes])
    lines.extend([label_line(label) for label in cell.labels])
    lines.extend([place_line(placement) for placement in cell.placements])
    return lines


def format_library(library):
    """The text of a library."""
    lines = []
    for name in library.cell_names:
        lines.extend(cell_lines(library.cell(name)))
    return "\n".join(lines)


def read_cell_name(words):
    """The name that a line for a cell gives, or None if it is wrong."""
    return words[1] if is_name(words[1]) else None


def read_shape(words):
    """The shape of a line for a shape, or None if it is wrong."""
    box = read_integers(words[2:])
    if box is None:
        return None
    shape = (words[1], box)
    return shape if is_shape(shape) else None


def read_label(words):
    """The label of a line for a label, or None if it is wrong."""
    square = read_integers(words[3:])
    if square is None:
        return None
    label = (words[1], words[2], *square)
    return label if is_label(label) else None


def read_placement(words):
    """The placement of a line for a placement, or None if it is wrong."""
    numbers = read_integers(words[2:])
    if numbers is None:
        return None
    placement = (words[1], numbers[:3], *numbers[3:])
    return placement if is_placement(placement) else None


READERS = {"cell": read_cell_name, "shape": read_shape, "label": read_label, "place": read_placement}


def read_part(line):
    """What a line says, by itself: a pair of its first word and of what it gives; or None if it is wrong."""
    words = line.split(" ")
    if words[0] not in READERS or len(words) != WORD_COUNTS[words[0]]:
        return None
    reader = READERS[words[0]]
    value = reader(words)
    return None if value is None else (words[0], value)


class Draft:
    """The cells that were read so far. The last one is not completed yet."""

    def __init__(self):
        self._completed = {}
        self._name = None
        self._parts = {}
        self._last_word = None

    def fits(self, word, value):
        """True if what a line says is right after the lines before it."""
        if word == "cell":
            begun = len(self._completed) + (0 if self._name is None else 1)
            return begun < MOST_CELLS and value != self._name and value not in self._completed
        if self._name is None or LINE_ORDER.index(word) < LINE_ORDER.index(self._last_word):
            return False
        return word != "place" or value[0] in self._completed

    def take(self, word, value):
        """Takes in what the next line says, which fits."""
        if word == "cell":
            self._complete()
            self._name = value
            self._parts = {"shape": [], "label": [], "place": []}
        else:
            self._parts[word].append(value)
        self._last_word = word

    def library(self):
        """The library of all cells. Nothing is taken in after this."""
        self._complete()
        return Library(list(self._completed.values()))

    def _complete(self):
        if self._name is not None:
            parts = self._parts
            self._completed[self._name] = Cell(self._name, parts["shape"], parts["label"], parts["place"])


def parse_library(text):
    """The library that a text writes. Raises InvalidText with the number of the first wrong line."""
    draft = Draft()
    # The text without any line is the library without cells, not one with an empty line.
    lines = text.split("\n") if text != "" else []
    for number, line in enumerate(lines, start=1):
        part = read_part(line)
        if part is None or not draft.fits(part[0], part[1]):
            raise InvalidText(number)
        draft.take(part[0], part[1])
    return draft.library()
