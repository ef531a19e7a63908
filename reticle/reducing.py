"""Reducing circuits: merging parallel devices, pruning unused nets, and numbering nets anew."""

from reticle.circuits import Circuit


def merged(circuit):
    """A circuit in which each group of parallel devices is one device, at the position of the first of them."""
    widths = {}
    for kind, gate, end, other, width, length in circuit.devices:
        place = (kind, gate, end, other, length)
        widths[place] = widths.get(place, 0) + width
    devices = [
        (kind, gate, end, other, width, length) for (kind, gate, end, other, length), width in widths.items()
    ]
    return Circuit(circuit.net_count, circuit.names, devices)


def with_nets(circuit, net_count, numbers):
    """A circuit in which each net that is used has the number that a dict or a list gives for it."""
    names = [(numbers[net], name) for net, name in circuit.names]
    devices = []
    for kind, gate, end, other, width, length in circuit.devices:
        first, second = sorted([numbers[end], numbers[other]])
        devices.append((kind, numbers[gate], first, second, width, length))
    return Circuit(net_count, names, devices)


def pruned(circuit):
    """A circuit without the nets that are not used, in which the others follow each other without gaps."""
    used = [net for net, _ in circuit.names]
    for device in circuit.devices:
        used.extend(device[1:4])
    kept = sorted(set(used))
    return with_nets(circuit, len(kept), {net: number for number, net in enumerate(kept)})


def renumbered(circuit, order):
    """A circuit in which net k of a circuit has the number order[k]."""
    return with_nets(circuit, circuit.net_count, order)
