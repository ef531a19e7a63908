"""What several tests need: slow but plain ways of counting squares, and repeatable samples."""

import random

from reticle.circuits import Circuit
from reticle.schematics import Block

HUGE = 10 ** 29

TURN_COUNT = 8

# A schematic of some gates.
GATES = """block inv a y vdd gnd
device n a gnd y 2 1
device p a vdd y 4 1
block nand a b y vdd gnd
device n a gnd m 4 1
device n b m y 4 1
device p a vdd y 4 1
device p b vdd y 4 1
block xor a b y vdd gnd
use nand a b m vdd gnd
use nand a m n vdd gnd
use nand b m o vdd gnd
use nand n o y vdd gnd
block and a b y vdd gnd
use nand a b m vdd gnd
use inv m y vdd gnd
block mux s a b y vdd gnd
use inv s t vdd gnd
use nand s a m vdd gnd
use nand t b n vdd gnd
use nand m n y vdd gnd
block and8 a b c d e f g h y vdd gnd
use nand a b n1 vdd gnd
use inv n1 p1 vdd gnd
use nand p1 c n2 vdd gnd
use inv n2 p2 vdd gnd
use nand p2 d n3 vdd gnd
use inv n3 p3 vdd gnd
use nand p3 e n4 vdd gnd
use inv n4 p4 vdd gnd
use nand p4 f n5 vdd gnd
use inv n5 p5 vdd gnd
use nand p5 g n6 vdd gnd
use inv n6 p6 vdd gnd
use nand p6 h n7 vdd gnd
use inv n7 y vdd gnd
block switch s a y
device n s a y 1 1
block latch s r q vdd gnd
use nand s p q vdd gnd
use nand r q p vdd gnd"""


def squares_of(boxes):
    """The set of the squares of boxes."""
    return {(x, y) for x0, y0, x1, y1 in boxes for x in range(x0, x1) for y in range(y0, y1)}


def runs_of(xs):
    """The largest runs (first, behind the last) of neighbouring numbers."""
    runs = []
    for x in sorted(xs):
        if runs and runs[-1][1] == x:
            runs[-1] = (runs[-1][0], x + 1)
        else:
            runs.append((x, x + 1))
    return runs


def region_of_squares(squares):
    """The region of a set of squares, written straight from point 7."""
    lines = {}
    for x, y in squares:
        lines.setdefault(y, set()).add(x)
    rows = []
    for y in sorted(lines):
        if rows and rows[-1][1] == y and rows[-1][2] == lines[y]:
            rows[-1] = (rows[-1][0], y + 1, lines[y])
        else:
            rows.append((y, y + 1, lines[y]))
    return tuple((x0, y0, x1, y1) for y0, y1, xs in rows for x0, x1 in runs_of(xs))


def neighbours(x, y):
    """The four neighbours of a square."""
    return [(x + 1, y), (x - 1, y), (x, y + 1), (x, y - 1)]


def box_squares(x, y, n):
    """The squares of the box of width n and height n with the lower left square (x, y)."""
    return {(x + i, y + j) for i in range(n) for j in range(n)}


def spread_squares(squares, left, down, right, up):
    """The squares to which squares are spread (point 9), one by one."""
    return {(x + i, y + j) for x, y in squares for i in range(-left, right + 1) for j in range(-down, up + 1)}


def joined_squares(squares, start):
    """The squares that are joined with a square."""
    found, left = {start}, [start]
    while left:
        for square in neighbours(*left.pop()):
            if square in squares and square not in found:
                found.add(square)
                left.append(square)
    return found


def piece_squares(squares):
    """The sets of squares of the pieces, in the order of their first squares by y and then by x."""
    found, left = [], set(squares)
    for x, y in sorted(squares, key=lambda square: (square[1], square[0])):
        if (x, y) in left:
            found.append(joined_squares(squares, (x, y)))
            left -= found[-1]
    return found


def random_box(source, size, longest):
    """A box whose lower left square is at most `size` away from (0, 0)."""
    x, y = source.randint(-size, size), source.randint(-size, size)
    return (x, y, x + source.randint(1, longest), y + source.randint(1, longest))


def random_boxes(source, most, size=6, longest=4):
    """A list of up to `most` boxes, which may overlap."""
    return [random_box(source, size, longest) for _ in range(source.randint(0, most))]


def samples(count, most=8, size=6, longest=4, seed=1):
    """The same lists of boxes on each call."""
    source = random.Random(seed)
    return [random_boxes(source, most, size, longest) for _ in range(count)]


def cut_up(source, boxes):
    """Other boxes with the same squares: each box cut once, some parts doubled, all of them shuffled."""
    parts = []
    for x0, y0, x1, y1 in boxes:
        if x1 - x0 > 1 and source.random() < 0.5:
            x = source.randint(x0 + 1, x1 - 1)
            parts.extend([(x0, y0, x, y1), (x, y0, x1, y1)])
        elif y1 - y0 > 1:
            y = source.randint(y0 + 1, y1 - 1)
            parts.extend([(x0, y0, x1, y), (x0, y, x1, y1)])
        else:
            parts.append((x0, y0, x1, y1))
    parts.extend([part for part in parts if source.random() < 0.3])
    source.shuffle(parts)
    return parts


def random_shapes(source, layers, most=4, size=6, longest=4):
    """A list of shapes, up to `most` of them on each of the layers."""
    return [(layer, box) for layer in layers for box in random_boxes(source, most, size, longest)]


def cut_shapes(source, shapes):
    """Other shapes with the same squares, in another order."""
    parts = []
    for layer in sorted({layer for layer, _ in shapes}):
        parts.extend((layer, box) for box in cut_up(source, [box for other, box in shapes if other == layer]))
    source.shuffle(parts)
    return parts


def random_move(source, size=9):
    """Any of the eight turns, and a shift."""
    return (source.randrange(TURN_COUNT), source.randint(-size, size), source.randint(-size, size))


def turned_corner(turn, x, y):
    """The image of the corner (x, y) under a turn, step by step as point 5 says."""
    if turn >= 4:
        x = -x
    for _ in range(turn % 4):
        x, y = -y, x
    return x, y


def image_of_box(move, box):
    """The image of a box under a move, from the images of its four corners."""
    turn, dx, dy = move
    corners = [turned_corner(turn, x, y) for x in (box[0], box[2]) for y in (box[1], box[3])]
    xs, ys = [x + dx for x, _ in corners], [y + dy for _, y in corners]
    return (min(xs), min(ys), max(xs), max(ys))


def image_of_square(move, square):
    """The image of a square under a move."""
    x, y = square
    return image_of_box(move, (x, y, x + 1, y + 1))[:2]


def random_circuit(source, net_count, device_count, sizes=1, names=0):
    """A circuit with at least one net, with widths and lengths up to `sizes` and up to `names` names."""
    devices = []
    for _ in range(device_count):
        gate, *ends = [source.randrange(net_count) for _ in range(3)]
        width, length = source.randint(1, sizes), source.randint(1, sizes)
        devices.append((source.choice("np"), gate, *sorted(ends), width, length))
    named = source.sample(range(net_count), min(names, net_count))
    return Circuit(net_count, [(net, f"n{at}") for at, net in enumerate(named)], devices)


def mixed_up(source, circuit):
    """The same circuit with other numbers: a triple of it and of the tuples of a match."""
    nets, order = list(range(circuit.net_count)), list(range(len(circuit.devices)))
    source.shuffle(nets)
    source.shuffle(order)
    devices = [None] * len(order)
    for index, (kind, gate, end, other, width, length) in enumerate(circuit.devices):
        devices[order[index]] = (kind, nets[gate], *sorted([nets[end], nets[other]]), width, length)
    return Circuit(circuit.net_count, [(nets[net], name) for net, name in circuit.names], devices), tuple(nets), tuple(order)


def rings(*sizes, kind="n", gate=None):
    """Rings of equal devices, without names; a device leads from each net of a ring to the next one.

    The gate is the first of the two nets, or, if `gate` is True, one more net, which is the last one.
    """
    devices, start, last = [], 0, sum(sizes)
    for size in sizes:
        for at in range(size):
            net, following = start + at, start + (at + 1) % size
            devices.append((kind, last if gate else net, *sorted([net, following]), 1, 1))
        start += size
    return Circuit(last + 1 if gate else last, [], devices)


def drawn(circuit):
    """The shapes and labels of a layout of a circuit: a strip on "top" for each net, and a column for each device."""
    shapes, labels, right = [], [], 1
    for kind, gate, end, other, width, length in circuit.devices:
        x, last = right, right + 3 + length
        shapes.extend([("active", (x, 0, last + 1, width)), ("poly", (x + 2, -1, x + 2 + length, width + 3))])
        if kind == "p":
            shapes.append(("well", (x + 2, 0, x + 2 + length, width)))
        for column, y, net in [(x, 0, end), (last, 0, other), (x + 2, width + 2, gate)]:
            height = 100 + 2 * net
            shapes.extend([("contact", (column, y, column + 1, y + 1)), ("metal", (column, y, column + 1, height + 1)),
                           ("via", (column, height, column + 1, height + 1))])
        right = last + 3
    for net in range(circuit.net_count):
        shapes.append(("top", (0, 100 + 2 * net, right, 101 + 2 * net)))
    labels.extend((name, "top", 0, 100 + 2 * net) for net, name in circuit.names)
    return shapes, labels


def random_expression(source, names, depth, greatest=3):
    """An expression of at most this depth, over names, with numbers up to `greatest`."""
    if depth == 1 or source.random() < 0.15:
        return ("layer", source.choice(names))
    operation = source.choice(["and", "or", "minus", "odd", "grow", "shrink", "open"])
    if operation in ("grow", "shrink", "open"):
        n = source.randint(1 if operation == "open" else 0, greatest)
        return (operation, n, random_expression(source, names, depth - 1, greatest))
    return (operation, *[random_expression(source, names, depth - 1, greatest) for _ in range(2)])


def random_rule(source, names, greatest=3):
    """A rule of any of the seven kinds about names, at least two of them different."""
    kind = source.choice(["width", "space", "apart", "cover", "area", "size", "never"])
    first, second = source.sample(names, 2)
    n, other = source.randint(1, greatest), source.randint(1, greatest)
    if kind in ("apart", "cover"):
        return (kind, first, second, n - 1)
    if kind == "never":
        return (kind, first, second)
    return (kind, first, n, other) if kind == "size" else (kind, first, n)


def random_blocks(source, count, most_devices=3, most_uses=2, sizes=9):
    """Blocks, each of which may use those before it; often one net is given to several ports."""
    blocks = []
    for at in range(count):
        nets = [f"n{net}" for net in range(source.randint(1, 6))]
        devices = [(source.choice("np"), *source.choices(nets, k=3), source.randint(1, sizes), source.randint(1, sizes))
                   for _ in range(source.randint(0, most_devices))]
        used = [source.choice(blocks) for _ in range(source.randint(0, most_uses))] if blocks else []
        uses = [(block.name, tuple(source.choices(nets + ["m0", "m1"], k=len(block.ports)))) for block in used]
        ports = source.sample(nets + ["m1", "q"], source.randint(0, min(4, len(nets))))
        blocks.append(Block(f"b{at}", ports, devices, uses))
    return blocks
