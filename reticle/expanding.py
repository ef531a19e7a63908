"""Expanding blocks of schematics: their circuits."""

from reticle.circuits import Circuit
from reticle.errors import TooLarge
from reticle.schematics import own_nets

GREATEST_COUNT = 200


class Expansion:
    """The nets and devices that were found so far."""

    def __init__(self, schematic):
        self._schematic = schematic
        self._net_count = 0
        self._devices = []

    def add_block(self, name, given):
        """Adds what is in a block, whose first nets have the numbers of a list; the others are new."""
        block = self._schematic.block(name)
        names = own_nets(block)
        new_count = len(names) - len(given)
        numbers = given + list(range(self._net_count, self._net_count + new_count))
        self._net_count += new_count
        number_of = dict(zip(names, numbers))
        for kind, gate, end, other, width, length in block.devices:
            first, second = sorted([number_of[end], number_of[other]])
            self._devices.append((kind, number_of[gate], first, second, width, length))
        for used, nets in block.uses:
            # The ports come first among the nets of the used block.
            self.add_block(used, [number_of[net] for net in nets])

    def finished(self, ports):
        """The Circuit of what was added, in which the first nets have the names of ports."""
        return Circuit(self._net_count, list(enumerate(ports)), self._devices)


def expand(schematic, name):
    """The Circuit of a block."""
    counts = [schematic.device_count(name), schematic.count_nets(name), schematic.use_count(name)]
    if max(counts) > GREATEST_COUNT:
        raise TooLarge(GREATEST_COUNT)
    expansion = Expansion(schematic)
    expansion.add_block(name, [])
    return expansion.finished(schematic.block(name).ports)
