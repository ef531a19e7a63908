"""Flattening cells: the layout of everything that is in a cell."""

from reticle.errors import TooLarge
from reticle.layouts import Layout, moved_label, moved_shape


def copies(placement):
    """The list of the moves of the copies of a placement, row by row and within a row column by column."""
    _, (turn, dx, dy), columns, rows, step_x, step_y = placement
    return [(turn, dx + i * step_x, dy + j * step_y) for j in range(rows) for i in range(columns)]


def all_shapes(library, name):
    """The list of the shapes of a cell and of everything that is placed in it."""
    cell = library.cell(name)
    found = list(cell.shapes)
    for placement in cell.placements:
        # Following all the ways into cells in which there is nothing could take forever.
        if library.shape_count(placement[0]) > 0:
            inner = all_shapes(library, placement[0])
            found.extend([moved_shape(move, shape) for move in copies(placement) for shape in inner])
    return found


def all_labels(library, name):
    """The list of the labels of a cell and of everything that is placed in it."""
    cell = library.cell(name)
    found = list(cell.labels)
    for placement in cell.placements:
        if library.label_count(placement[0]) > 0:
            inner = all_labels(library, placement[0])
            found.extend([moved_label(move, label) for move in copies(placement) for label in inner])
    return found


def refuse_large(library, name, limit):
    """Raises TooLarge if flattening a cell would produce more shapes or more labels than the limit."""
    if library.shape_count(name) > limit or library.label_count(name) > limit:
        raise TooLarge(limit)


def flatten(library, name, *, limit=10000):
    """The Layout of everything that is in a cell of a library."""
    refuse_large(library, name, limit)
    return Layout(all_shapes(library, name), all_labels(library, name))
