"""Schematics: blocks with ports, devices and uses of other blocks."""

from reticle.circuits import KINDS
from reticle.errors import InvalidBlock, InvalidSchematic, UnknownCell
from reticle.layouts import is_name

MOST_BLOCKS = 60


def are_different(names):
    """True if no string occurs twice in a list or tuple."""
    return len(set(names)) == len(names)


def are_ports(ports):
    """True if a list or tuple of strings can be the ports of a block."""
    return all([is_name(port) for port in ports]) and are_different(ports)


def is_block_device(device):
    """True if a tuple of four strings and two integers can be a device of a block."""
    kind, gate, end, other, width, length = device
    return kind in KINDS and all([is_name(net) for net in (gate, end, other)]) and width >= 1 and length >= 1


def is_use(use):
    """True if a pair of a string and a tuple of strings is a use of some block."""
    name, nets = use
    return is_name(name) and all([is_name(net) for net in nets])


class Block:
    """A block, whose nets are called by names."""

    def __init__(self, name, ports, devices, uses):
        if not is_name(name):
            raise InvalidBlock("the name is not valid")
        if not are_ports(ports):
            raise InvalidBlock("the ports are not valid")
        if not all([is_block_device(device) for device in devices]):
            raise InvalidBlock("a device is not valid")
        if not all([is_use(use) for use in uses]):
            raise InvalidBlock("a use is not valid")
        self.name = name
        self.ports = tuple(ports)
        self.devices = tuple(devices)
        self.uses = tuple(uses)


def own_nets(block):
    """The list of the nets of a block: the ports, and then the others as they occur first in devices and uses."""
    names = list(block.ports)
    for device in block.devices:
        names.extend(device[1:4])
    for _, nets in block.uses:
        names.extend(nets)
    # A dict keeps the place of the first occurrence.
    return list({name: True for name in names})


class Schematic:
    """A list of blocks, each of which uses only blocks that stand before it."""

    def __init__(self, blocks):
        if len(blocks) > MOST_BLOCKS:
            raise InvalidSchematic("there are too many blocks")
        self._blocks = {}
        self._device_counts = {}
        self._net_counts = {}
        self._use_counts = {}
        for block in blocks:
            self._append_block(block)

    def _append_block(self, block):
        if block.name in self._blocks:
            raise InvalidSchematic(f"two blocks are called {block.name}")
        for name, nets in block.uses:
            if name not in self._blocks:
                raise InvalidSchematic(f"no block {name} stands before {block.name}")
            if len(nets) != len(self._blocks[name].ports):
                raise InvalidSchematic(f"a use of {name} does not give one net to each port")
        # With the counts of all blocks before it at hand, no use has to be followed for those of a block.
        used = [name for name, _ in block.uses]
        self._device_counts[block.name] = len(block.devices) + sum([self._device_counts[name] for name in used])
        self._use_counts[block.name] = len(used) + sum([self._use_counts[name] for name in used])
        new_nets = [self._net_counts[name] - len(self._blocks[name].ports) for name in used]
        self._net_counts[block.name] = len(own_nets(block)) + sum(new_nets)
        self._blocks[block.name] = block

    @property
    def block_names(self):
        """The tuple of the names of the blocks, in their order."""
        return tuple(self._blocks)

    def block(self, name):
        """The block with a name."""
        return self._known(self._blocks, name)

    def device_count(self, name):
        """The number of devices of the circuit of a block."""
        return self._known(self._device_counts, name)

    def count_nets(self, name):
        """The number of nets of the circuit of a block."""
        return self._known(self._net_counts, name)

    def use_count(self, name):
        """The number of uses that expanding a block follows."""
        return self._known(self._use_counts, name)

    def _known(self, counts, name):
        if name not in counts:
            raise UnknownCell(name)
        return counts[name]
