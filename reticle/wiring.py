"""Nets: the places of the four conductors that conduct together."""

from reticle.groups import Groups
from reticle.pieces import piece_indexes, pieces
from reticle.regions import meeting, region_of, rest
from reticle.trees import Tree

CONDUCTORS = ("active", "poly", "metal", "top")

# The layers that link "metal" with another conductor, and these conductors.
LINKS = (("contact", "active"), ("contact", "poly"), ("via", "top"))


def conductor(layout, layer):
    """The region of the squares of the places on one of the four layers."""
    region = layout.region(layer)
    return rest(region, layout.region("poly")) if layer == "active" else region


def linking_squares(layout, linking_layer, layer):
    """The region of the squares at which a layer links "metal" with another conductor."""
    return meeting(meeting(layout.region(linking_layer), layout.region("metal")), conductor(layout, layer))


class PieceList:
    """The pieces of the four conductors, layer by layer, each as a pair of its layer and its region."""

    def __init__(self, layout):
        self.listed = []
        self._trees = {}
        self._numbers = {}
        for layer in CONDUCTORS:
            region = conductor(layout, layer)
            # A tree finds the box of a place, and each box of a region lies in one piece.
            self._trees[layer] = Tree(list(enumerate(region)))
            self._numbers[layer] = [len(self.listed) + index for index in piece_indexes(region)]
            self.listed.extend([(layer, piece) for piece in pieces(region)])

    def number_at(self, layer, x, y):
        """The index in the list of the piece that a place belongs to, or None if the tuple is not a place."""
        found = self._trees[layer].find((x, y, x + 1, y + 1))
        return self._numbers[layer][found[0]] if found else None


def net_numbers(layout, piece_list):
    """For each of the pieces of the conductors the number of its net."""
    groups = Groups(len(piece_list.listed))
    for linking_layer, layer in LINKS:
        # The squares of a box are joined, so one of them tells which pieces the box links.
        for x, y, _, _ in linking_squares(layout, linking_layer, layer):
            groups.unite(piece_list.number_at("metal", x, y), piece_list.number_at(layer, x, y))
    return groups.indexes()


class Wiring:
    """The nets of a layout, and the labels on them."""

    def __init__(self, layout):
        self._piece_list = PieceList(layout)
        self._nets = net_numbers(layout, self._piece_list)
        self._parts = []
        for net, part in zip(self._nets, self._piece_list.listed):
            if net == len(self._parts):
                self._parts.append([])
            self._parts[net].append(part)
        self._names = [[] for _ in self._parts]
        self._loose = []
        for label in layout.labels:
            self._take_label(label)

    def _take_label(self, label):
        name, layer, x, y = label
        net = self.net_at(layer, x, y)
        if net is None:
            self._loose.append(label)
        elif self._names[net][-1:] != [name]:
            # Labels are taken in ascending order, so those with the same name come one after the other.
            self._names[net].append(name)

    def __len__(self):
        return len(self._parts)

    def parts(self, net):
        """The list of the pieces of a net, each as a pair of its layer and its region."""
        return list(self._parts[net])

    def net_at(self, layer, x, y):
        """The number of the net of a place, or None if the tuple is not a place."""
        number = self._piece_list.number_at(layer, x, y)
        return None if number is None else self._nets[number]

    def region(self, net, layer):
        """The region of all squares of a net on a layer."""
        return region_of([box for part in self._parts[net] if part[0] == layer for box in part[1]])

    def names_on(self, net):
        """The ascending list of the different names of the labels on a net."""
        return list(self._names[net])

    def loose(self):
        """The ascending list of the labels that are not at a place."""
        return list(self._loose)

    def shorted(self):
        """The ascending list of the numbers of the nets on which labels with different names lie."""
        return [net for net, names in enumerate(self._names) if len(names) > 1]

    def split(self):
        """The ascending list of the names whose labels lie on different nets."""
        net_counts = {}
        for names in self._names:
            for name in names:
                net_counts[name] = net_counts.get(name, 0) + 1
        return sorted([name for name in net_counts if net_counts[name] > 1])


def connect(layout):
    """The wiring of a layout."""
    return Wiring(layout)
