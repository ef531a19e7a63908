"""Trees of boxes, for finding those that overlap a window."""

from reticle.boxes import hull, overlap

LEAF_SIZE = 8


def middle_x(row):
    """Twice the x of the middle of the box of a row."""
    return row[1][0] + row[1][2]


def middle_y(row):
    """Twice the y of the middle of the box of a row."""
    return row[1][1] + row[1][3]


def along_longer_side(rows, frame):
    """The rows in order along the longer side of the hull of their boxes."""
    x0, y0, x1, y1 = frame
    if x1 - x0 >= y1 - y0:
        return sorted(rows, key=middle_x)
    return sorted(rows, key=middle_y)


class Tree:
    """The index of a list of pairs of a number and a box: a leaf, or an inner node with two trees as its parts."""

    def __init__(self, rows):
        self._rows = ()
        self._hull = None
        self._parts = ()
        if len(rows) <= LEAF_SIZE:
            self._rows = tuple(rows)
        else:
            self._hull = hull([box for _, box in rows])
            in_order = along_longer_side(rows, self._hull)
            middle = len(rows) // 2
            self._parts = (Tree(in_order[:middle]), Tree(in_order[middle:]))

    def find(self, window):
        """The ascending list of the numbers whose boxes overlap the window."""
        if self._parts and overlap(self._hull, window) is None:
            return []
        found = [number for number, box in self._rows if overlap(box, window) is not None]
        for part in self._parts:
            found.extend(part.find(window))
        return sorted(found)

    def depth(self):
        """0 for a leaf, otherwise one more than the greater depth of the two parts."""
        if not self._parts:
            return 0
        return 1 + max([part.depth() for part in self._parts])
