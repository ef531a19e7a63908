"""Boxes of unit squares: tuples (x0, y0, x1, y1) with x0 < x1 and y0 < y1."""


def is_box(box):
    """True if a tuple of four integers is a box."""
    x0, y0, x1, y1 = box
    return x0 < x1 and y0 < y1


def has_square(box, x, y):
    """True if a box contains the square (x, y)."""
    x0, y0, x1, y1 = box
    return x0 <= x < x1 and y0 <= y < y1


def box_area(box):
    """The number of squares of a box."""
    x0, y0, x1, y1 = box
    return (x1 - x0) * (y1 - y0)


def inner_sides(first, second):
    """The greater lower sides and the smaller upper sides of two boxes; a box only if they overlap."""
    return (
        max(first[0], second[0]),
        max(first[1], second[1]),
        min(first[2], second[2]),
        min(first[3], second[3]),
    )


def overlap(first, second):
    """The box of the squares that are in both boxes, or None if there are none."""
    shared = inner_sides(first, second)
    return shared if is_box(shared) else None


def touch(first, second):
    """True if two boxes do not overlap, but squares of them are neighbours."""
    x0, y0, x1, y1 = inner_sides(first, second)
    return (x0 == x1 and y0 < y1) or (x0 < x1 and y0 == y1)


def hull(boxes):
    """The smallest box that contains all boxes of a list that is not empty."""
    return (
        min([box[0] for box in boxes]),
        min([box[1] for box in boxes]),
        max([box[2] for box in boxes]),
        max([box[3] for box in boxes]),
    )


def spread_box(box, *, left=0, down=0, right=0, up=0):
    """A box with its four sides moved outwards."""
    x0, y0, x1, y1 = box
    return (x0 - left, y0 - down, x1 + right, y1 + up)
