"""Wires on "metal" that join two nets, and barriers that show that there is none."""

from reticle.boxes import box_area, has_square, spread_box
from reticle.errors import NoWire, TooLarge, UnknownNet
from reticle.layouts import Layout
from reticle.pieces import piece_indexes
from reticle.regions import meeting, region_of, rest, union, within
from reticle.sizing import grow, spread
from reticle.trees import Tree
from reticle.wiring import LINKS, conductor, connect


def foreign_squares(layout, wiring, nets, layer, box):
    """The region of the squares in a box at which there is a place on a layer that belongs to none of two nets."""
    parts = within(conductor(layout, layer), box)
    # The squares of a part are joined, so all of them belong to the net of one of them.
    return region_of([part for part in parts if wiring.net_at(layer, part[0], part[1]) not in nets])


def open_squares(layout, wiring, nets, window, gap):
    """The region of the open squares of a window."""
    around = spread_box(window, left=gap, down=gap, right=gap, up=gap)
    found = rest((window,), grow(foreign_squares(layout, wiring, nets, "metal", around), gap))
    for linking_layer, layer in LINKS:
        linking = within(layout.region(linking_layer), window)
        if linking:
            found = rest(found, meeting(linking, foreign_squares(layout, wiring, nets, layer, window)))
    return found


def is_open(layout, wiring, nets, window, gap, x, y):
    """True if the square (x, y) is open for a wire that joins two nets."""
    return has_square(window, x, y) and open_squares(layout, wiring, nets, (x, y, x + 1, y + 1), gap) != ()


def reached_squares(free, starts):
    """The region of the squares of a region that are joined with squares of a part of it."""
    numbers = piece_indexes(free)
    tree = Tree(list(enumerate(free)))
    reached = {}
    for start in starts:
        for at in tree.find(start):
            reached[numbers[at]] = True
    return region_of([box for number, box in zip(numbers, free) if number in reached])


def squares_of(region):
    """The list of the squares of a region."""
    return [(x, y) for x0, y0, x1, y1 in region for y in range(y0, y1) for x in range(x0, x1)]


def shortest_path(region, starts, ends):
    """The list of the squares of a shortest chain of neighbours from a start to an end, if a region contains one."""
    inside = {square: True for square in squares_of(region)}
    is_end = {square: True for square in squares_of(ends)}
    queue = squares_of(starts)
    before = {square: None for square in queue}
    at = 0
    while queue[at] not in is_end:
        x, y = queue[at]
        for square in ((x + 1, y), (x, y + 1), (x - 1, y), (x, y - 1)):
            if square in inside and square not in before:
                before[square] = queue[at]
                queue.append(square)
        at += 1
    path = [queue[at]]
    while before[path[-1]] is not None:
        path.append(before[path[-1]])
    return path[::-1]


def wire(layout, first, second, *, window, gap=1, limit=2000):
    """A shortest wire from the first net to the second one, a list of squares."""
    wiring = connect(layout)
    for net in (first, second):
        if not 0 <= net < len(wiring):
            raise UnknownNet(net)
    if box_area(window) > limit:
        raise TooLarge(limit)
    free = open_squares(layout, wiring, (first, second), window, gap)
    starts = meeting(free, wiring.region(first, "metal"))
    reached = reached_squares(free, starts)
    ends = meeting(reached, wiring.region(second, "metal"))
    if ends == ():
        raise NoWire(reached)
    return shortest_path(reached, starts, ends)


def is_barrier(layout, first, second, region, *, window, gap=1):
    """True if a region is a barrier between two nets."""
    wiring = connect(layout)
    free = open_squares(layout, wiring, (first, second), window, gap)
    starts = meeting(free, wiring.region(first, "metal"))
    with_neighbours = union(spread(region, left=1, right=1), spread(region, down=1, up=1))
    return (
        rest(region, free) == ()
        and rest(starts, region) == ()
        and rest(meeting(with_neighbours, free), region) == ()
        and meeting(region, wiring.region(second, "metal")) == ()
    )


def joined(layout, squares):
    """The Layout with a shape on "metal" for each of the squares, and with the same labels."""
    shapes = layout.shapes() + [("metal", (x, y, x + 1, y + 1)) for x, y in squares]
    return Layout(shapes, list(layout.labels))
