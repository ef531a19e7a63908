"""What several tests need: slow but plain ways of counting squares, and repeatable samples."""

import random

HUGE = 10 ** 29

TURN_COUNT = 8


def squares_of(boxes):
    """The set of the squares of boxes."""
    return {(x, y) for x0, y0, x1, y1 in boxes for x in range(x0, x1) for y in range(y0, y1)}


def runs_of(xs):
    """The largest runs (first, behind the last) of neighbouring numbers."""
    runs = []
    for x in sorted(xs):
        if runs and runs[-1][1] == x:
            runs[-1] = (runs[-1][0], x + 1)
        else:
            runs.append((x, x + 1))
    return runs


def region_of_squares(squares):
    """The region of a set of squares, written straight from point 7."""
    lines = {}
    for x, y in squares:
        lines.setdefault(y, set()).add(x)
    rows = []
    for y in sorted(lines):
        if rows and rows[-1][1] == y and rows[-1][2] == lines[y]:
            rows[-1] = (rows[-1][0], y + 1, lines[y])
        else:
            rows.append((y, y + 1, lines[y]))
    return tuple((x0, y0, x1, y1) for y0, y1, xs in rows for x0, x1 in runs_of(xs))


def neighbours(x, y):
    """The four neighbours of a square."""
    return [(x + 1, y), (x - 1, y), (x, y + 1), (x, y - 1)]


def box_squares(x, y, n):
    """The squares of the box of width n and height n with the lower left square (x, y)."""
    return {(x + i, y + j) for i in range(n) for j in range(n)}


def random_box(source, size, longest):
    """A box whose lower left square is at most `size` away from (0, 0)."""
    x, y = source.randint(-size, size), source.randint(-size, size)
    return (x, y, x + source.randint(1, longest), y + source.randint(1, longest))


def random_boxes(source, most, size=6, longest=4):
    """A list of up to `most` boxes, which may overlap."""
    return [random_box(source, size, longest) for _ in range(source.randint(0, most))]


def samples(count, most=8, size=6, longest=4, seed=1):
    """The same lists of boxes on each call."""
    source = random.Random(seed)
    return [random_boxes(source, most, size, longest) for _ in range(count)]


def cut_up(source, boxes):
    """Other boxes with the same squares: each box cut once, some parts doubled, all of them shuffled."""
    parts = []
    for x0, y0, x1, y1 in boxes:
        if x1 - x0 > 1 and source.random() < 0.5:
            x = source.randint(x0 + 1, x1 - 1)
            parts.extend([(x0, y0, x, y1), (x, y0, x1, y1)])
        elif y1 - y0 > 1:
            y = source.randint(y0 + 1, y1 - 1)
            parts.extend([(x0, y0, x1, y), (x0, y, x1, y1)])
        else:
            parts.append((x0, y0, x1, y1))
    parts.extend([part for part in parts if source.random() < 0.3])
    source.shuffle(parts)
    return parts


def turned_corner(turn, x, y):
    """The image of the corner (x, y) under a turn, step by step as point 5 says."""
    if turn >= 4:
        x = -x
    for _ in range(turn % 4):
        x, y = -y, x
    return x, y


def image_of_box(move, box):
    """The image of a box under a move, from the images of its four corners."""
    turn, dx, dy = move
    corners = [turned_corner(turn, x, y) for x in (box[0], box[2]) for y in (box[1], box[3])]
    xs, ys = [x + dx for x, _ in corners], [y + dy for _, y in corners]
    return (min(xs), min(ys), max(xs), max(ys))


def image_of_square(move, square):
    """The image of a square under a move."""
    x, y = square
    return image_of_box(move, (x, y, x + 1, y + 1))[:2]
