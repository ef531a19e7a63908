"""Packing: boxes, and the copies of a cell, are moved to the left without changing their order."""

from reticle.boxes import has_square, hull, spread_box
from reticle.cells import Cell
from reticle.errors import Crowded, NotPackable
from reticle.flattening import all_labels, all_shapes, copies, refuse_large
from reticle.moves import chain, move_box
from reticle.trees import Tree

MOST_SHAPES = 10000


def are_near(first, second, gap):
    """True if the ranges of y of two boxes are less than the gap apart."""
    return first[1] < second[3] + gap and second[1] < first[3] + gap


def is_before(first, second, gap):
    """True if two boxes are near and the first one ends at least the gap before the second one begins."""
    return are_near(first, second, gap) and first[2] + gap <= second[0]


def refuse_crowded(boxes, gap):
    """Raises Crowded for the smallest pair of indexes of near boxes neither of which is before the other."""
    # These are the boxes that overlap if the gap is added to their right and to their upper sides.
    rows = [(index, spread_box(box, right=gap, up=gap)) for index, box in enumerate(boxes)]
    tree = Tree(rows)
    for _, box in rows:
        found = tree.find(box)
        if len(found) > 1:
            raise Crowded(found[0], found[1])


def left_side(row):
    """The key by which pairs of an index and a box are put in order from the left."""
    return row[1][0]


def pack(boxes, *, gap=1, wall=0):
    """The list of the boxes, moved to the left as far as possible."""
    refuse_crowded(boxes, gap)
    heights = sorted(set([box[1] for box in boxes] + [box[3] + gap for box in boxes]))
    strips = {y: at for at, y in enumerate(heights)}
    # For each strip from one height to the next one, the least x0 of the next box in it.
    fronts = [wall for _ in heights]
    packed = list(boxes)
    # Of two near boxes the left one is before the other. So those before a box are packed when its turn comes, and
    # behind it, it is the one that counts.
    for index, (x0, y0, x1, y1) in sorted(list(enumerate(boxes)), key=left_side):
        start, end = strips[y0], strips[y1 + gap]
        x = max(fronts[start:end])
        packed[index] = (x, y0, x + x1 - x0, y1)
        fronts[start:end] = [x + x1 - x0 + gap] * (end - start)
    return packed


def tight_chain(boxes, index, *, gap=1, wall=0):
    """A list of indexes of boxes, each of which keeps the next one from lying further to the left."""
    packed = pack(boxes, gap=gap, wall=wall)
    # For each x, the indexes of the boxes that end the gap before it.
    ending = {}
    for at, box in enumerate(packed):
        ending.setdefault(box[2] + gap, []).append(at)
    found = [index]
    while packed[found[-1]][0] > wall:
        last = found[-1]
        before = [at for at in ending[packed[last][0]] if is_before(boxes[at], boxes[last], gap)]
        found.append(before[0])
    return found[::-1]


def copy_frame(library, name):
    """The hull of the shapes of a flattened cell, in which its labels lie. Raises NotPackable otherwise."""
    if library.shape_count(name) == 0:
        raise NotPackable(f"a copy of {name} has no shapes")
    frame = hull([box for _, box in all_shapes(library, name)])
    if not all([has_square(frame, x, y) for _, _, x, y in all_labels(library, name)]):
        raise NotPackable(f"a copy of {name} has a label outside of its hull")
    return frame


def pack_cell(library, name, *, gap=1):
    """The Cell with the same name and the same copies, in which their hulls are packed."""
    refuse_large(library, name, MOST_SHAPES)
    cell = library.cell(name)
    if cell.shapes or cell.labels:
        raise NotPackable(f"{name} has shapes or labels of its own")
    names = []
    moves = []
    boxes = []
    for placement in cell.placements:
        frame = copy_frame(library, placement[0])
        for move in copies(placement):
            names.append(placement[0])
            moves.append(move)
            boxes.append(move_box(move, frame))
    placements = []
    for at, packed in enumerate(pack(boxes, gap=gap)):
        shift = (0, packed[0] - boxes[at][0], 0)
        placements.append((names[at], chain(moves[at], shift), 1, 1, 0, 0))
    return Cell(name, [], [], placements)
