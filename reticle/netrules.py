"""Net rules: tuples of a kind, the name of a conductor, and perhaps a number."""

from reticle.errors import InvalidNetRule
from reticle.pieces import first_square
from reticle.regions import area, meeting, region_of, union
from reticle.rules import GREATEST_NUMBER
from reticle.sizing import grow
from reticle.transistors import channels
from reticle.wiring import CONDUCTORS, conductor, connect

# For each kind with a number, the least one.
LEAST_NUMBERS = {"strangers": 0, "antenna": 1}


def is_net_rule(rule):
    """True if a tuple of the form of a net rule is one."""
    if rule[1] not in CONDUCTORS:
        return False
    return rule[0] == "tied" or LEAST_NUMBERS[rule[0]] <= rule[2] <= GREATEST_NUMBER


def net_regions(wiring, layer):
    """The list of the regions of the nets on a layer, in the order of the nets."""
    return [wiring.region(net, layer) for net in range(len(wiring))]


def combined_shares(first, second):
    """The shares of two lists of regions put together.

    The shares of regions are the pair of the region of the squares that are in at least one of them, and of the
    region of the squares that are in at least two of them.
    """
    twice = union(meeting(first[0], second[0]), union(first[1], second[1]))
    return (union(first[0], second[0]), twice)


def shared_squares(regions):
    """The region of the squares that are in at least two of a list of regions."""
    shares = [(region, ()) for region in regions]
    # Putting together shares of about the same size keeps the work small.
    while len(shares) > 1:
        pairs = [combined_shares(shares[at], shares[at + 1]) for at in range(0, len(shares) - 1, 2)]
        shares = pairs + shares[2 * len(pairs):]
    return shares[0][1] if shares else ()


def near_strangers(layout, wiring, rule):
    """The marks of "strangers"."""
    _, layer, n = rule
    # Each square is in what its own net grows to, so it is near another net if it is in what two nets grow to.
    grown = [grow(region, n) for region in net_regions(wiring, layer) if region]
    return meeting(conductor(layout, layer), shared_squares(grown))


def channel_areas(layout, wiring):
    """A dict that gives for each net that is a gate the number of the squares of its channels."""
    areas = {}
    for channel in channels(layout):
        x, y = first_square(channel)
        net = wiring.net_at("poly", x, y)
        areas[net] = areas.get(net, 0) + area(channel)
    return areas


def large_antennas(layout, wiring, rule):
    """The marks of "antenna"."""
    _, layer, n = rule
    areas = channel_areas(layout, wiring)
    regions = [(wiring.region(net, layer), areas[net]) for net in areas]
    return region_of([box for region, squares in regions if area(region) > n * squares for box in region])


def unlabelled_squares(wiring, layer):
    """The marks of "tied"."""
    nets = [net for net in range(len(wiring)) if not wiring.names_on(net)]
    return region_of([box for net in nets for box in wiring.region(net, layer)])


def net_marks(layout, wiring, rule):
    """The region of the squares that a net rule marks in a layout, whose nets a wiring gives."""
    if rule[0] == "strangers":
        return near_strangers(layout, wiring, rule)
    if rule[0] == "antenna":
        return large_antennas(layout, wiring, rule)
    return unlabelled_squares(wiring, rule[1])


def check_nets(layout, rules):
    """The list of the marks of net rules. Raises InvalidNetRule with the index of the first wrong one."""
    for index, rule in enumerate(rules):
        if not is_net_rule(rule):
            raise InvalidNetRule(index)
    wiring = connect(layout)
    return [net_marks(layout, wiring, rule) for rule in rules]
