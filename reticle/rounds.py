"""Colours of the nets and devices of two circuits, round by round.

Nets and devices are nodes, which are numbered in one list: the nets of the first circuit, those of the second one,
the devices of the first circuit, and those of the second one.
"""


def sides_and_indexes(first_count, second_count):
    """The ascending list of the pairs of a side and an index, for this many things on the sides 0 and 1."""
    return [(0, index) for index in range(first_count)] + [(1, index) for index in range(second_count)]


def bond_indexes(bonds):
    """A dict that gives for each pair of a side and a bonded net the list of the indexes of its bonds."""
    indexes = {}
    for index, bond in enumerate(bonds):
        for side, net in enumerate(bond):
            indexes.setdefault((side, net), []).append(index)
    return indexes


def classes_of(colours, places):
    """The lists of those places that have the same colour, in the order of their first places."""
    classes = {}
    for colour, place in zip(colours, places):
        classes.setdefault(colour, []).append(place)
    return list(classes.values())


def is_even(sides):
    """True if 0 and 1 occur equally often in a list of sides."""
    return 2 * sum(sides) == len(sides)


class Pair:
    """The nodes of two circuits, and how they are connected."""

    def __init__(self, first, second):
        self._circuits = (first, second)
        self.nets = sides_and_indexes(first.net_count, second.net_count)
        self.devices = sides_and_indexes(len(first.devices), len(second.devices))
        self.sides = [side for side, _ in self.nets + self.devices]
        # For a device its gate, and its two ends; for a net the devices at which it is the gate, and those at
        # which it is an end, twice where it is both ends.
        self.gates = [[] for _ in self.sides]
        self.ends = [[] for _ in self.sides]
        for at, (side, index) in enumerate(self.devices):
            self._connect(len(self.nets) + at, side, self._circuits[side].devices[index])

    def _connect(self, node, side, device):
        first_net = self._circuits[0].net_count if side == 1 else 0
        gate, end, other = [first_net + net for net in device[1:4]]
        self.gates[node].append(gate)
        self.gates[gate].append(node)
        for net in (end, other):
            self.ends[node].append(net)
            self.ends[net].append(node)

    def first_keys(self, bonds):
        """A dict that gives for each node what tells it apart in round 0 under a list of bonds."""
        bonded = bond_indexes(bonds)
        keys = {}
        for node, (side, net) in enumerate(self.nets):
            keys[node] = ("net", self._circuits[side].name_of(net), tuple(bonded.get((side, net), [])))
        for at, (side, index) in enumerate(self.devices):
            kind, _, _, _, width, length = self._circuits[side].devices[index]
            keys[len(self.nets) + at] = ("device", kind, width, length)
        return keys


class Rounds:
    """The colours of the nodes of a pair under a list of bonds, in round 0 and then in one round after the other.

    `number` is that of the round, `is_balanced` tells whether each colour occurs equally often in both circuits,
    and `is_settled` whether the round told no more nodes apart than the one before it.
    A round looks only at nodes that are connected with one whose colour is new, so long chains cost little.
    """

    def __init__(self, pair, bonds):
        self._pair = pair
        self._colours = [0 for _ in pair.sides]
        # For each colour the number of its nodes.
        self._sizes = [len(pair.sides)]
        self.is_balanced = is_even(pair.sides)
        self._changed = []
        self._divide(pair.first_keys(bonds))
        # In the first round no connection was looked at yet.
        self._changed = list(range(len(pair.sides)))
        self.number = 0
        self.is_settled = False

    def _divide(self, keys):
        """Tells nodes of a colour apart by their keys; those that are given no key have a key of their own."""
        parts = {}
        for node, key in keys.items():
            parts.setdefault(self._colours[node], {}).setdefault(key, []).append(node)
        self._changed = []
        for colour, by_key in parts.items():
            by_size = sorted(list(by_key.values()), key=len)
            if sum([len(nodes) for nodes in by_size]) == self._sizes[colour]:
                # One part keeps the colour. The larger it is, the less there is to look at in the next round.
                by_size.pop()
            for nodes in by_size:
                self._give_new_colour(colour, nodes)

    def _give_new_colour(self, old_colour, nodes):
        # As long as all parts that are taken away from colours are even, what is left of them is even, too.
        self.is_balanced = self.is_balanced and is_even([self._pair.sides[node] for node in nodes])
        self._sizes[old_colour] -= len(nodes)
        for node in nodes:
            self._colours[node] = len(self._sizes)
        self._sizes.append(len(nodes))
        self._changed.extend(nodes)

    def _key(self, node):
        gates = [self._colours[other] for other in self._pair.gates[node]]
        ends = [self._colours[other] for other in self._pair.ends[node]]
        return (tuple(sorted(gates)), tuple(sorted(ends)))

    def advance(self):
        """Goes on to the next round."""
        touched = {}
        for node in self._changed:
            for other in self._pair.gates[node] + self._pair.ends[node]:
                touched[other] = True
        self._divide({node: self._key(node) for node in touched})
        self.number += 1
        self.is_settled = self._changed == []

    def advance_to(self, step):
        """Goes on to a round. What is settled is the same in all later rounds."""
        while self.number < step and not self.is_settled:
            self.advance()

    def net_classes(self):
        """The partition of the nets by their colours: lists of pairs of a side and a net."""
        return classes_of(self._colours[:len(self._pair.nets)], self._pair.nets)

    def device_classes(self):
        """The partition of the devices by their colours: lists of pairs of a side and an index."""
        return classes_of(self._colours[len(self._pair.nets):], self._pair.devices)
