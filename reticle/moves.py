"""Moves: tuples (turn, dx, dy) that turn or mirror the plane and then shift it."""

STAY = (0, 0, 0)

# For each turn the factors (a, b, c, d) that bring the corner (x, y) to (a * x + b * y, c * x + d * y).
TURNS = (
    (1, 0, 0, 1),
    (0, -1, 1, 0),
    (-1, 0, 0, -1),
    (0, 1, -1, 0),
    (-1, 0, 0, 1),
    (0, -1, -1, 0),
    (1, 0, 0, -1),
    (0, 1, 1, 0),
)


def is_move(move):
    """True if a tuple of three integers is a move."""
    return 0 <= move[0] < len(TURNS)


def turned(turn, x, y):
    """The corner to which a turn brings the corner (x, y)."""
    a, b, c, d = TURNS[turn]
    return (a * x + b * y, c * x + d * y)


def move_box(move, box):
    """The image of a box."""
    turn, dx, dy = move
    ax, ay = turned(turn, box[0], box[1])
    bx, by = turned(turn, box[2], box[3])
    return (min(ax, bx) + dx, min(ay, by) + dy, max(ax, bx) + dx, max(ay, by) + dy)


def move_square(move, x, y):
    """The image of the square (x, y), a tuple of two integers."""
    image = move_box(move, (x, y, x + 1, y + 1))
    return (image[0], image[1])


def chained_turn(first, second):
    """The turn that does one turn and then another one."""
    # A mirroring that follows a turn reverses its sense.
    quarters = second - first if second >= 4 else second + first
    is_mirrored = (first >= 4) != (second >= 4)
    return quarters % 4 + (4 if is_mirrored else 0)


def chain(first, second):
    """The move that does one move and then another one."""
    turn, dx, dy = second
    x, y = turned(turn, first[1], first[2])
    return (chained_turn(first[0], turn), x + dx, y + dy)


def inverse(move):
    """The move that takes a move back."""
    turn, dx, dy = move
    # Mirroring and then turning is a reflection, which takes itself back.
    back = turn if turn >= 4 else (4 - turn) % 4
    x, y = turned(back, dx, dy)
    return (back, -x, -y)
