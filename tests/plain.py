"""Nets, channels and marks straight from the document: every square and every place is looked at by itself."""

from reticle.layouts import LAYERS
from reticle.wiring import CONDUCTORS
from tests.helpers import box_squares, neighbours, piece_squares, spread_squares, squares_of


def on_layer(shapes, layer):
    """The set of the squares of a layer."""
    return squares_of([box for other, box in shapes if other == layer])


def squares_on(shapes):
    """A dict from each layer to the set of its squares."""
    return {layer: squares_of([box for other, box in shapes if other == layer]) for layer in LAYERS}


def places_of(shapes):
    """The places of a list of shapes, in the order of point 30."""
    squares = squares_on(shapes)
    squares["active"] -= squares["poly"]
    return [
        (layer, x, y) for layer in CONDUCTORS for x, y in sorted(squares[layer], key=lambda place: (place[1], place[0]))
    ]


def linked_places(place, squares):
    """What may be linked with a place (point 29)."""
    layer, x, y = place
    found = [(layer, *square) for square in neighbours(x, y)]
    for between, pairs in [("contact", [("metal", "active"), ("metal", "poly")]), ("via", [("metal", "top")])]:
        if (x, y) in squares[between]:
            for first, second in pairs:
                if layer in (first, second):
                    found.append((second if layer == first else first, x, y))
    return found


def plain_nets(shapes):
    """A dict from each place to the number of its net, place by place."""
    places, squares, nets, count = places_of(shapes), squares_on(shapes), {}, 0
    known = set(places)
    for start in places:
        if start not in nets:
            nets[start], left = count, [start]
            while left:
                for place in linked_places(left.pop(), squares):
                    if place in known and place not in nets:
                        nets[place] = count
                        left.append(place)
            count += 1
    return nets


def channel_squares(shapes):
    """The sets of squares of the channels, in their order."""
    return piece_squares(on_layer(shapes, "active") & on_layer(shapes, "poly"))


def boxes_around(x, y, n):
    """All boxes of width n and height n around a square, as sets of squares."""
    return [box_squares(x - i, y - j, n) for i in range(n) for j in range(n)]


def is_box_piece(piece, width, height):
    """True if a set of squares is a box of the size, or of the size turned by a quarter."""
    x, y = min(x for x, _ in piece), min(y for _, y in piece)
    sizes = [(width, height), (height, width)]
    return any(piece == {(x + i, y + j) for i in range(w) for j in range(h)} for w, h in sizes)


def marked_squares(shapes, rule):
    """The squares that a rule marks, each looked at by itself."""
    kind, layer = rule[:2]
    squares = on_layer(shapes, layer)
    if kind == "width":
        return {place for place in squares if not any(box <= squares for box in boxes_around(*place, rule[2]))}
    if kind == "space":
        around = spread_squares(squares, rule[2], rule[2], rule[2], rule[2]) - squares
        return {place for place in around if all(box & squares for box in boxes_around(*place, rule[2]))}
    if kind in ("area", "size"):
        parts = piece_squares(squares)
        if kind == "area":
            return {place for part in parts if len(part) < rule[2] for place in part}
        return {place for part in parts if not is_box_piece(part, *rule[2:]) for place in part}
    other = on_layer(shapes, rule[2])
    if kind == "never":
        return squares & other
    n = rule[3]
    if kind == "apart":
        return {(x, y) for x, y in squares if box_squares(x - n, y - n, 2 * n + 1) & other}
    return {(x, y) for x, y in squares if not box_squares(x - n, y - n, 2 * n + 1) <= other}
