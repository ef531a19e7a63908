"""Regions: finite sets of squares, each written as a tuple of boxes in one way only."""

from reticle.boxes import box_area, has_square, is_box, overlap
from reticle.moves import move_box
from reticle.rows import boxes_of, combined, rows_of

# Which squares are wanted: those in none of two regions, in the second one only, in the first one only, in both.
IN_ANY = (False, True, True, True)
IN_BOTH = (False, False, False, True)
IN_FIRST_ONLY = (False, False, True, False)
IN_ONE_ONLY = (False, True, True, False)


def lower_left(box):
    """The key by which boxes are put in order from below and then from the left."""
    return (box[1], box[0])


def region_of(boxes):
    """The region of a list or tuple of boxes, which may overlap."""
    parts = [rows_of([box]) for box in sorted(boxes, key=lower_left)]
    while len(parts) > 1:
        parts = joined_in_pairs(parts)
    return boxes_of(parts[0]) if parts else ()


def joined_in_pairs(parts):
    """The unions of the first two lists of rows, of the next two, and so on."""
    # Joining parts of about the same size keeps the work small: no part takes part in more than a few unions.
    pairs = [combined(parts[at], parts[at + 1], IN_ANY) for at in range(0, len(parts) - 1, 2)]
    return pairs + parts[2 * len(pairs):]


def is_region(boxes):
    """True if a tuple of tuples of four integers is a region."""
    return all([is_box(box) for box in boxes]) and region_of(boxes) == boxes


def covers(region, x, y):
    """True if the square (x, y) is in a region."""
    return any([has_square(box, x, y) for box in region])


def area(region):
    """The number of squares of a region."""
    return sum([box_area(box) for box in region])


def union(first, second):
    """The region of the squares that are in at least one of two regions."""
    return boxes_of(combined(rows_of(first), rows_of(second), IN_ANY))


def meeting(first, second):
    """The region of the squares that are in both regions."""
    return boxes_of(combined(rows_of(first), rows_of(second), IN_BOTH))


def rest(first, second):
    """The region of the squares that are in the first region but not in the second one."""
    return boxes_of(combined(rows_of(first), rows_of(second), IN_FIRST_ONLY))


def odd_part(first, second):
    """The region of the squares that are in exactly one of two regions."""
    return boxes_of(combined(rows_of(first), rows_of(second), IN_ONE_ONLY))


def within(region, box):
    """The region of the squares of a region that are in a box."""
    parts = [overlap(part, box) for part in region]
    return region_of([part for part in parts if part is not None])


def move_region(move, region):
    """The image of a region."""
    return region_of([move_box(move, box) for box in region])
