"""Extracting circuits from layouts."""

from reticle.boxes import hull, spread_box
from reticle.circuits import Circuit
from reticle.errors import BadChannel, Shorted, Split
from reticle.layouts import Layout
from reticle.transistors import channels, is_well_formed, transistor
from reticle.trees import Tree
from reticle.wiring import connect


class Views:
    """A layout of which small parts are looked at, without going through all of its shapes each time."""

    def __init__(self, layout):
        self._shapes = layout.shapes()
        self._tree = Tree([(number, shape[1]) for number, shape in enumerate(self._shapes)])

    def around(self, region):
        """A layout with the same squares in and next to a region, and perhaps further ones."""
        window = spread_box(hull(region), left=1, down=1, right=1, up=1)
        return Layout([self._shapes[number] for number in self._tree.find(window)], [])


def refuse_wrong_names(wiring):
    """Raises Shorted for the first shorted net, and then Split for the first split name."""
    shorted = wiring.shorted()
    if shorted:
        raise Shorted(wiring.names_on(shorted[0]))
    split = wiring.split()
    if split:
        raise Split(split[0])


def extract(layout):
    """The circuit of a layout."""
    views = Views(layout)
    found = [(views.around(channel), channel) for channel in channels(layout)]
    for view, channel in found:
        if not is_well_formed(view, channel):
            raise BadChannel(channel)
    wiring = connect(layout)
    refuse_wrong_names(wiring)
    names = [(net, name) for net in range(len(wiring)) for name in wiring.names_on(net)]
    devices = [transistor(view, wiring, channel) for view, channel in found]
    return Circuit(len(wiring), names, devices)
