"""Cells with shapes, labels and placements, and libraries of cells."""

from reticle.boxes import is_box
from reticle.errors import InvalidCell, InvalidLibrary, UnknownCell
from reticle.layouts import LABEL_LAYERS, LAYERS, is_name
from reticle.moves import is_move

MOST_COPIES = 100

MOST_CELLS = 60


def is_shape(shape):
    """True if a pair of a layer and a box is a shape."""
    layer, box = shape
    return layer in LAYERS and is_box(box)


def is_label(label):
    """True if a tuple (name, layer, x, y) is a label."""
    return is_name(label[0]) and label[1] in LABEL_LAYERS


def is_placement(placement):
    """True if a tuple (name, move, columns, rows, step_x, step_y) is a placement of some cell."""
    name, move, columns, rows = placement[:4]
    return is_name(name) and is_move(move) and 1 <= columns <= MOST_COPIES and 1 <= rows <= MOST_COPIES


class Cell:
    """A cell with its own shapes and labels and its placements of other cells."""

    def __init__(self, name, shapes, labels, placements):
        if not is_name(name):
            raise InvalidCell("the name is not valid")
        if not all([is_shape(shape) for shape in shapes]):
            raise InvalidCell("a shape is not valid")
        if not all([is_label(label) for label in labels]):
            raise InvalidCell("a label is not valid")
        if not all([is_placement(placement) for placement in placements]):
            raise InvalidCell("a placement is not valid")
        self.name = name
        self.shapes = tuple(shapes)
        self.labels = tuple(labels)
        self.placements = tuple(placements)


def placed_count(placements, counts):
    """The sum of the counts of the placed cells, each taken once for each copy."""
    return sum([placement[2] * placement[3] * counts[placement[0]] for placement in placements])


class Library:
    """A list of cells, each of which is made up of cells that stand before it."""

    def __init__(self, cells):
        if len(cells) > MOST_CELLS:
            raise InvalidLibrary("there are too many cells")
        self._cells = {}
        self._shape_counts = {}
        self._label_counts = {}
        self._depths = {}
        for cell in cells:
            self._append_cell(cell)

    def _append_cell(self, cell):
        if cell.name in self._cells:
            raise InvalidLibrary(f"two cells are called {cell.name}")
        for placement in cell.placements:
            if placement[0] not in self._cells:
                raise InvalidLibrary(f"no cell {placement[0]} stands before {cell.name}")
        # With the counts of all cells before it at hand, nothing has to be flattened for those of a cell.
        shape_count = len(cell.shapes) + placed_count(cell.placements, self._shape_counts)
        label_count = len(cell.labels) + placed_count(cell.placements, self._label_counts)
        depth = max([self._depths[placement[0]] + 1 for placement in cell.placements], default=0)
        self._cells[cell.name] = cell
        self._shape_counts[cell.name] = shape_count
        self._label_counts[cell.name] = label_count
        self._depths[cell.name] = depth

    @property
    def cell_names(self):
        """The tuple of the names of the cells, in their order."""
        return tuple(self._cells)

    def cell(self, name):
        """The cell with a name."""
        return self._known(self._cells, name)

    def shape_count(self, name):
        """The number of shapes that flattening a cell would produce, before any are united."""
        return self._known(self._shape_counts, name)

    def label_count(self, name):
        """The number of labels that flattening a cell would produce, before equal ones are united."""
        return self._known(self._label_counts, name)

    def depth(self, name):
        """0 for a cell without placements, otherwise one more than the greatest depth of a placed cell."""
        return self._known(self._depths, name)

    def _known(self, table, name):
        if name not in table:
            raise UnknownCell(name)
        return table[name]
