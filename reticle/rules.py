"""Design rules: tuples of a kind, the names of one or two layers, and numbers."""

from reticle.layouts import LAYERS
from reticle.pieces import pieces
from reticle.regions import area, meeting, region_of, rest
from reticle.sizing import gaps, grow, opened, shrink

# For each kind, how many of the elements behind it are layers; the others are numbers.
LAYER_COUNTS = {"width": 1, "space": 1, "apart": 2, "cover": 2, "area": 1, "size": 1, "never": 2}

NUMBER_COUNTS = {"width": 1, "space": 1, "apart": 1, "cover": 1, "area": 1, "size": 2, "never": 0}

# The kinds whose number may be 0.
FROM_ZERO = ("apart", "cover")

GREATEST_NUMBER = 1000


def rule_layers(rule):
    """The tuple of the names of the layers of a rule."""
    return rule[1:1 + LAYER_COUNTS[rule[0]]]


def rule_numbers(rule):
    """The tuple of the numbers of a rule."""
    return rule[1 + LAYER_COUNTS[rule[0]]:]


def is_rule_over(layers, rule):
    """True if a tuple of the form of a rule is a rule about layers with names of a list or tuple."""
    named = rule_layers(rule)
    least = 0 if rule[0] in FROM_ZERO else 1
    return (
        all([layer in layers for layer in named])
        and len(set(named)) == len(named)
        and all([least <= number <= GREATEST_NUMBER for number in rule_numbers(rule)])
    )


def is_rule(rule):
    """True if a tuple of the form of a rule is a rule about the seven layers."""
    return is_rule_over(LAYERS, rule)


def reach(rule):
    """The largest distance at which a change can matter to a rule, or None if there is none."""
    if rule[0] in ("width", "space"):
        return rule[2] - 1
    if rule[0] in ("apart", "cover"):
        return rule[3]
    return 0 if rule[0] == "never" else None


def narrow_squares(layer, n):
    """The marks of "width"."""
    return rest(layer, opened(layer, n))


def narrow_gaps(layer, n):
    """The marks of "space"."""
    return rest(gaps(layer, n), layer)


def squares_near(layer, other, n):
    """The marks of "apart"."""
    return meeting(layer, grow(other, n))


def uncovered_squares(layer, other, n):
    """The marks of "cover"."""
    return rest(layer, shrink(other, n))


def small_pieces(layer, n):
    """The marks of "area"."""
    return region_of([box for piece in pieces(layer) if area(piece) < n for box in piece])


def is_box_of_size(piece, width, height):
    """True if a piece is a box of a width and a height, or of this height and width."""
    x0, y0, x1, y1 = piece[0]
    return len(piece) == 1 and (x1 - x0, y1 - y0) in ((width, height), (height, width))


def odd_sized_pieces(layer, width, height):
    """The marks of "size"."""
    return region_of([box for piece in pieces(layer) if not is_box_of_size(piece, width, height) for box in piece])


def shared_squares(layer, other):
    """The marks of "never"."""
    return meeting(layer, other)


MARKERS = {
    "width": narrow_squares,
    "space": narrow_gaps,
    "apart": squares_near,
    "cover": uncovered_squares,
    "area": small_pieces,
    "size": odd_sized_pieces,
    "never": shared_squares,
}


def marks_on(regions, rule):
    """The marks of a rule for a list of the regions of its layers."""
    marker = MARKERS[rule[0]]
    arguments = regions + list(rule_numbers(rule))
    return marker(*arguments)


def layer_regions(layout, rule):
    """The list of the regions of the layers of a rule."""
    return [layout.region(layer) for layer in rule_layers(rule)]


def marks(layout, rule):
    """The region of the squares that a rule marks in a layout."""
    return marks_on(layer_regions(layout, rule), rule)
