"""Rows of regions, for working through them from below.

A row is a tuple (y0, y1, edges), where edges is the ascending list of the coordinates x at which its runs begin
and end in turn. Rows stand in the order of y0 and do not overlap.
"""


def rows_of(boxes):
    """The rows of boxes that stand in the order of a region; boxes with the same y0 are of the same row."""
    rows = []
    for x0, y0, x1, y1 in boxes:
        if rows and rows[-1][0] == y0:
            rows[-1][2].extend([x0, x1])
        else:
            rows.append((y0, y1, [x0, x1]))
    return rows


def boxes_of(rows):
    """The tuple of the boxes of rows, in the order of a region."""
    boxes = []
    for y0, y1, edges in rows:
        for at in range(0, len(edges), 2):
            boxes.append((edges[at], y0, edges[at + 1], y1))
    return tuple(boxes)


def stacked(rows):
    """The rows with those left out that have no runs, and those made one that continue the row below."""
    kept = []
    for y0, y1, edges in rows:
        if kept and kept[-1][1] == y0 and kept[-1][2] == edges:
            kept[-1] = (kept[-1][0], y1, edges)
        elif edges:
            kept.append((y0, y1, edges))
    return kept


def combined_edges(first, second, wanted):
    """The edges of the squares of a line that are wanted: see combined."""
    if not second:
        return first if wanted[2] else []
    if not first:
        return second if wanted[1] else []
    edges = []
    i = j = 0
    for x in sorted(set(first + second)):
        if i < len(first) and first[i] == x:
            i += 1
        if j < len(second) and second[j] == x:
            j += 1
        # After an odd number of edges the place is inside of a run.
        if wanted[2 * (i % 2) + j % 2] != (len(edges) % 2 == 1):
            edges.append(x)
    return edges


def edges_at(rows, at, y):
    """The edges of row number `at` if it exists and has begun at y, otherwise an empty list."""
    return rows[at][2] if at < len(rows) and rows[at][0] <= y else []


def combined(first, second, wanted):
    """The rows of the squares that are wanted.

    `wanted` tells by four truth values whether squares in none of the two lists of rows, in the second one only,
    in the first one only, and in both are wanted; those in none are not.
    """
    cuts = sorted(set([row[0] for row in first + second] + [row[1] for row in first + second]))
    rows = []
    i = j = 0
    for y0, y1 in zip(cuts, cuts[1:]):
        while i < len(first) and first[i][1] <= y0:
            i += 1
        while j < len(second) and second[j][1] <= y0:
            j += 1
        rows.append((y0, y1, combined_edges(edges_at(first, i, y0), edges_at(second, j, y0), wanted)))
    return stacked(rows)
