"""Transistors: where "poly" crosses "active"."""

from reticle.pieces import pieces
from reticle.regions import covers, meeting, rest, within


def channels(layout):
    """The list of the channels of a layout, each a region."""
    return pieces(meeting(layout.region("active"), layout.region("poly")))


def outer_sides(box):
    """The boxes of the squares outside along the four sides of a box, opposite ones one after the other."""
    x0, y0, x1, y1 = box
    return ((x0 - 1, y0, x0, y1), (x1, y0, x1 + 1, y1), (x0, y0 - 1, x1, y0), (x0, y1, x1, y1 + 1))


def side_states(layout, box):
    """For each outer side of a box True if it is in the conductor "active", False if none of it is, otherwise None."""
    states = []
    for side in outer_sides(box):
        conducting = rest(within(layout.region("active"), side), within(layout.region("poly"), side))
        if conducting in ((side,), ()):
            states.append(conducting == (side,))
        else:
            states.append(None)
    return states


def is_well_formed(layout, channel):
    """True if a channel of a layout is well formed."""
    if len(channel) != 1:
        return False
    on_well = within(layout.region("well"), channel[0])
    if on_well not in (channel, ()):
        return False
    return side_states(layout, channel[0]) in ([True, True, False, False], [False, False, True, True])


def transistor(layout, wiring, channel):
    """The transistor that a channel is, which is well formed."""
    x0, y0, x1, y1 = channel[0]
    kind = "p" if covers(layout.region("well"), x0, y0) else "n"
    gate = wiring.net_at("poly", x0, y0)
    left, right, below, above = [wiring.net_at("active", side[0], side[1]) for side in outer_sides(channel[0])]
    if left is None:
        return (kind, gate, min(below, above), max(below, above), x1 - x0, y1 - y0)
    return (kind, gate, min(left, right), max(left, right), y1 - y0, x1 - x0)
