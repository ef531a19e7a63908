"""Outlines: the loops along the sides of a region."""

from reticle.errors import InvalidLoop
from reticle.rows import boxes_of, rows_of, stacked


def levels_of(rows):
    """The list of tuples (y, edges of the row below y, edges of the row above y) of rows."""
    levels = []
    top = None
    below = []
    for y0, y1, edges in rows:
        if below and top != y0:
            levels.append((top, below, []))
            below = []
        levels.append((y0, below, edges))
        top = y1
        below = edges
    return levels + [(top, below, [])] if below else levels


def corners_at(y, below, above):
    """The corners at a height between two rows, in such an order that lines lead from each even one to the next one.

    A corner is a tuple (x, y, is_above, is_right). Its vertical line leads up from (x, y) if is_above is 1, and
    down if it is 0; squares of the region lie to the left of this line if is_right is 1, and to its right if it is 0.
    """
    under = {x: at % 2 for at, x in enumerate(below)}
    over = {x: at % 2 for at, x in enumerate(above)}
    corners = []
    for x in sorted(set(below + above)):
        if x not in over:
            corners.append((x, y, 0, under[x]))
        elif x not in under:
            corners.append((x, y, 1, over[x]))
        elif under[x] > over[x]:
            # Squares below to the left and above to the right touch here, and each loop stays with one of them.
            corners.extend([(x, y, 0, 1), (x, y, 1, 0)])
        elif under[x] < over[x]:
            corners.extend([(x, y, 1, 1), (x, y, 0, 0)])
    return corners


def in_pairs(corners):
    """The pairs of the first two corners, of the next two, and so on."""
    return [(corners[at], corners[at + 1]) for at in range(0, len(corners), 2)]


def horizontal_steps(corners):
    """A dict from each corner at which a horizontal line begins to the one at which it ends."""
    steps = {}
    for left, right in in_pairs(corners):
        _, _, is_above, is_right = left
        # To the right along the lower sides of squares, to the left along their upper sides.
        if is_above != is_right:
            steps[left] = right
        else:
            steps[right] = left
    return steps


def vertical_partners(corners):
    """A dict from each corner to the one at the other end of its vertical line."""
    partners = {}
    for lower, upper in in_pairs(sorted(corners)):
        partners[lower] = upper
        partners[upper] = lower
    return partners


def height_first(point):
    """The key by which points are put in order by y and then by x."""
    return (point[1], point[0])


def loop_order(loop):
    """The key by which loops are put in order: their first points by y and then by x, and then as tuples."""
    return (height_first(loop[0]), loop)


def from_smallest(points):
    """The tuple of the points of a loop, beginning with the smallest one by y and then by x."""
    start = points.index(min(points, key=height_first))
    return tuple(points[start:] + points[:start])


def outlines(region):
    """The list of the corner loops of a region."""
    corners = []
    for y, below, above in levels_of(rows_of(region)):
        corners.extend(corners_at(y, below, above))
    steps = horizontal_steps(corners)
    partners = vertical_partners(corners)
    loops = []
    done = {}
    for start in steps:
        at = start
        points = []
        while at not in done:
            done[at] = True
            end = steps[at]
            points.extend([at[:2], end[:2]])
            at = partners[end]
        if points:
            loops.append(from_smallest(points))
    return sorted(loops, key=loop_order)


def lines_of(loop):
    """The list of the lines of a loop, pairs of a point and the next one."""
    return list(zip(loop, loop[1:] + loop[:1]))


def signed_area(loop):
    """The area that a loop encloses, negative if the loop is walked clockwise."""
    return sum([start[0] * (end[1] - start[1]) for start, end in lines_of(loop)])


def is_outer(loop):
    """True if a loop is walked counterclockwise."""
    return signed_area(loop) > 0


def is_loop(loop):
    """True if the lines of a tuple of points are vertical and horizontal in turn, and at least four."""
    if len(loop) < 4:
        return False
    # For each line, whether it changes x and whether it changes y.
    changes = [(start[0] != end[0], start[1] != end[1]) for start, end in lines_of(loop)]
    are_straight = all([along_x != along_y for along_x, along_y in changes])
    return are_straight and all([changes[at - 1] != changes[at] for at in range(len(changes))])


def crossings(loops):
    """A dict that gives for each y the list of those x at which a vertical line begins or ends at y."""
    table = {}
    for start, end in [line for loop in loops for line in lines_of(loop)]:
        if start[0] == end[0]:
            table.setdefault(start[1], []).append(start[0])
            table.setdefault(end[1], []).append(start[0])
    return table


def filled(loops):
    """The region of the squares from which a ray to the left crosses an odd number of vertical lines."""
    for index, loop in enumerate(loops):
        if not is_loop(loop):
            raise InvalidLoop(index)
    table = crossings(loops)
    heights = sorted(table)
    # The x with an odd number of lines at the present height. Two lines at the same place take each other back.
    odd = {}
    rows = []
    for y0, y1 in zip(heights, heights[1:]):
        for x in table[y0]:
            if x in odd:
                del odd[x]
            else:
                odd[x] = True
        rows.append((y0, y1, sorted(odd)))
    return boxes_of(stacked(rows))
