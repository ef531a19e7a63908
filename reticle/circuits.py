"""Circuits: nets, their names, and devices."""

from reticle.errors import InvalidCircuit
from reticle.layouts import is_name

MOST_NETS = 200

MOST_DEVICES = 200

KINDS = ("n", "p")


def is_net_count(net_count):
    """True if a circuit may have this many nets."""
    return 0 <= net_count <= MOST_NETS


def is_device(device, net_count):
    """True if a tuple of a string and five integers is a device of a circuit with this many nets."""
    kind, gate, end, other, width, length = device
    return kind in KINDS and 0 <= gate < net_count and 0 <= end <= other < net_count and width >= 1 and length >= 1


def are_names(names, net_count):
    """True if pairs of a net and its name can be the names of a circuit with this many nets."""
    return (
        all([0 <= net < net_count and is_name(name) for net, name in names])
        and len(set([net for net, _ in names])) == len(names)
        and len(set([name for _, name in names])) == len(names)
    )


class Circuit:
    """A circuit, whose nets are numbered from 0."""

    def __init__(self, net_count, names, devices):
        if not is_net_count(net_count):
            raise InvalidCircuit(f"the number of nets is not from 0 to {MOST_NETS}")
        if not are_names(names, net_count):
            raise InvalidCircuit("the names are not valid")
        if len(devices) > MOST_DEVICES:
            raise InvalidCircuit("there are too many devices")
        if not all([is_device(device, net_count) for device in devices]):
            raise InvalidCircuit("a device is not valid")
        self.net_count = net_count
        self.names = tuple(sorted(names))
        self.devices = tuple(devices)
        self._name_table = dict(self.names)

    def name_of(self, net):
        """The name of a net, or None if it has none."""
        return self._name_table.get(net)

    def devices_at(self, net):
        """The ascending list of the indexes of the devices that have a net as gate or end."""
        return [index for index, device in enumerate(self.devices) if net in device[1:4]]

    def __eq__(self, other):
        return (
            isinstance(other, Circuit)
            and self.net_count == other.net_count
            and self.names == other.names
            and self.devices == other.devices
        )
