"""Pieces of regions, and the lengths of their outlines."""

from reticle.boxes import has_square
from reticle.groups import Groups
from reticle.rows import boxes_of, rows_of, stacked


def stacked_pairs(region):
    """The pairs of indexes of boxes of a region of which the second one stands on the first one."""
    pairs = []
    start = 0
    for at, (x0, y0, x1, _) in enumerate(region):
        # What lies below this row, or to the left in the row below, is in no later pair either.
        while region[start][3] < y0 or (region[start][3] == y0 and region[start][2] <= x0):
            start += 1
        below = start
        while region[below][3] == y0 and region[below][0] < x1:
            pairs.append((below, at))
            below += 1
    return pairs


def piece_indexes(region):
    """For each box of a region the index of its piece."""
    groups = Groups(len(region))
    for below, above in stacked_pairs(region):
        groups.unite(below, above)
    return groups.indexes()


def pieces(region):
    """The list of the pieces of a region, in the order of their first squares."""
    parts = []
    for index, box in zip(piece_indexes(region), region):
        if index == len(parts):
            parts.append([])
        parts[index].append(box)
    # Alone, a piece may have larger rows than within the region.
    return [boxes_of(stacked(rows_of(part))) for part in parts]


def piece_at(region, x, y):
    """The index of the piece that contains the square (x, y), or None if the region does not contain it."""
    for index, box in zip(piece_indexes(region), region):
        if has_square(box, x, y):
            return index
    return None


def first_square(region):
    """The square of a region that is not empty with the smallest y, and of these with the smallest x."""
    return (region[0][0], region[0][1])


def are_joined(region, first, second):
    """True if two squares are in a region and joined."""
    index = piece_at(region, first[0], first[1])
    return index is not None and index == piece_at(region, second[0], second[1])


def outline_length(region):
    """The number of pairs of neighbours of which exactly one is in a region."""
    length = sum([2 * (x1 - x0 + y1 - y0) for x0, y0, x1, y1 in region])
    for below, above in stacked_pairs(region):
        shared = min(region[below][2], region[above][2]) - max(region[below][0], region[above][0])
        length -= 2 * shared
    return length
