"""Spreading, growing, shrinking and opening regions, and their gaps."""

from reticle.boxes import hull, spread_box
from reticle.regions import region_of, rest


def spread(region, *, left=0, down=0, right=0, up=0):
    """The union of the boxes of a region, each spread by four amounts."""
    return region_of([spread_box(box, left=left, down=down, right=right, up=up) for box in region])


def grow(region, n):
    """The squares that differ from a square of the region by at most n in each coordinate."""
    return spread(region, left=n, down=n, right=n, up=n)


def inner_part(region, left, down, right, up):
    """The squares of a region around which the squares up to these distances are all in the region."""
    if not region:
        return ()
    frame = spread_box(hull(region), left=left, down=down, right=right, up=up)
    outside = rest((frame,), region)
    # A square outside spoils those squares from which it can be reached, so it spreads the opposite way.
    return rest(region, spread(outside, left=right, down=up, right=left, up=down))


def shrink(region, n):
    """The squares for which all squares that differ by at most n in each coordinate are in the region."""
    return inner_part(region, n, n, n, n)


def opened(region, n):
    """The union of the boxes of width n and height n that are in a region as a whole."""
    corners = inner_part(region, 0, 0, n - 1, n - 1)
    return spread(corners, right=n - 1, up=n - 1)


def gaps(region, n):
    """The squares that are in no box of width n and height n without a square of the region."""
    if not region:
        return ()
    frame = hull(region)
    # A free box that reaches a square of the hull has its lower left square in this larger frame.
    corner_frame = spread_box(frame, left=n - 1, down=n - 1)
    free_corners = rest((corner_frame,), spread(region, left=n - 1, down=n - 1))
    return rest((frame,), spread(free_corners, right=n - 1, up=n - 1))
