"""Matches: how the nets and devices of two circuits correspond."""


def is_renumbering(numbers, first_count, second_count):
    """True if a tuple gives for each of the first numbers one of the second ones, and each of these once."""
    return len(numbers) == first_count and sorted(numbers) == list(range(second_count))


def are_partners(device, other, nets):
    """True if a device and another one agree, where a tuple gives the partners of the nets."""
    kind, gate, end, other_end, width, length = device
    ends = sorted([nets[end], nets[other_end]])
    return (kind, nets[gate], *ends, width, length) == other


def is_match(first, second, match):
    """True if a pair of tuples (nets, devices) is a match of two circuits."""
    nets, devices = match
    if not is_renumbering(nets, first.net_count, second.net_count):
        return False
    if not is_renumbering(devices, len(first.devices), len(second.devices)):
        return False
    have_same_names = [first.name_of(net) == second.name_of(partner) for net, partner in enumerate(nets)]
    agree = [
        are_partners(device, second.devices[partner], nets) for device, partner in zip(first.devices, devices)
    ]
    return all(have_same_names) and all(agree)
