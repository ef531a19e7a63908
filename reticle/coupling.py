"""Coupling: how much two nets lie over each other, and how much they face each other."""

from reticle.boxes import box_area, overlap
from reticle.regions import area, meeting, move_region
from reticle.rows import rows_of
from reticle.trees import Tree
from reticle.wiring import CONDUCTORS

# The move that exchanges x and y.
EXCHANGE = (7, 0, 0)


def coupling(wiring, first, second):
    """The number of squares at which one of two nets lies on "metal" and the other one on "top"."""
    over = meeting(wiring.region(first, "metal"), wiring.region(second, "top"))
    under = meeting(wiring.region(first, "top"), wiring.region(second, "metal"))
    return area(over) + area(under)


def net_boxes(wiring, layer):
    """The list of the pairs of a net and a box of its region on a layer."""
    return [(net, box) for net in range(len(wiring)) for box in wiring.region(net, layer)]


def couplings(wiring):
    """The ascending list of the tuples of two nets that couple, the smaller number first, and of their coupling."""
    top = net_boxes(wiring, "top")
    tree = Tree([(number, box) for number, (_, box) in enumerate(top)])
    counts = {}
    for net, box in net_boxes(wiring, "metal"):
        for number in tree.find(box):
            other, other_box = top[number]
            if other != net:
                pair = (min(net, other), max(net, other))
                counts[pair] = counts.get(pair, 0) + box_area(overlap(box, other_box))
    return sorted([(*pair, count) for pair, count in counts.items()])


def pairs_up_to(edges, other_edges, n):
    """The number of pairs of an x in the runs with some edges and an x in other runs that is at most n greater.

    For the pairs of an x below an edge a and an x from an edge b on, this number is k * (k + 1) / 2 with k = a + n - b
    if k is positive. A run is all from its first edge on without all from its second one on, and likewise for below.
    """
    doubled = 0
    # For the other edges b below a + n, their number, their sum and the sum of their squares, where second edges
    # are taken away.
    count = linear = square = 0
    passed = 0
    for at, a in enumerate(edges):
        end = a + n
        while passed < len(other_edges) and other_edges[passed] < end:
            b = other_edges[passed]
            sign = 1 - 2 * (passed % 2)
            count += sign
            linear += sign * b
            square += sign * b * b
            passed += 1
        pairs = count * end * (end + 1) - linear * (2 * end + 1) + square
        doubled += pairs if at % 2 == 1 else -pairs
    return doubled // 2


def facing_in_lines(first, second, n):
    """The number of pairs of squares of two regions that have the same y and differ by at most n in x."""
    others = rows_of(second)
    total = 0
    start = 0
    for y0, y1, edges in rows_of(first):
        while start < len(others) and others[start][1] <= y0:
            start += 1
        at = start
        while at < len(others) and others[at][0] < y1:
            low, high, other_edges = others[at]
            pairs = pairs_up_to(edges, other_edges, n) - pairs_up_to(edges, other_edges, -n - 1)
            total += (min(y1, high) - max(y0, low)) * pairs
            at += 1
    return total


def facing(wiring, first, second, n):
    """The number of pairs of squares of two nets on one conductor that face each other within a distance n."""
    total = 0
    for layer in CONDUCTORS:
        region, other = wiring.region(first, layer), wiring.region(second, layer)
        total += facing_in_lines(region, other, n)
        total += facing_in_lines(move_region(EXCHANGE, region), move_region(EXCHANGE, other), n)
    return total
