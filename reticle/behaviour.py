"""Behaviour of circuits: nets have the values "0", "1" and "x", which means unknown."""

from reticle.errors import UnknownName
from reticle.groups import Groups

# The kinds of devices together with the values of the gate with which they conduct, surely or perhaps.
SURE = ("n1", "p0")

PERHAPS = ("n1", "nx", "p0", "px")

# The nets that have a value in every table, if there are nets of these names.
SUPPLIES = (("vdd", "1"), ("gnd", "0"))


def links_of(devices, values, conducting):
    """A dict that gives for each net the list of the nets to which devices that conduct lead from it."""
    links = {}
    for kind, gate, end, other, _, _ in devices:
        if kind + values[gate] in conducting:
            links.setdefault(end, []).append(other)
            links.setdefault(other, []).append(end)
    return links


def pulled(links, fixed, pulling):
    """A dict of the nets to which paths lead from fixed nets with one of the values of a tuple."""
    found = {}
    left = [net for net in links if net in fixed and fixed[net] in pulling]
    while left:
        reached = left.pop()
        for net in links[reached]:
            # A fixed net keeps its value, and no path goes on behind it.
            if net not in fixed and net not in found:
                found[net] = True
                left.append(net)
    return found


def known_values(devices, fixed, values):
    """A dict that gives the next values, if they are not "x", of the ends of devices that are not fixed.

    The devices are all those of a circuit, or one of its groups. `fixed` is a dict from the fixed nets to their values.
    """
    sure = links_of(devices, values, SURE)
    perhaps = links_of(devices, values, PERHAPS)
    known = {}
    for value, opposite in (("0", "1"), ("1", "0")):
        contradicted = pulled(perhaps, fixed, (opposite, "x"))
        for net in pulled(sure, fixed, (value,)):
            if net not in contradicted:
                known[net] = value
    return known


def next_values(circuit, fixed, values):
    """The string of the next values of all nets."""
    fixed_values = dict(fixed)
    known = known_values(circuit.devices, fixed_values, values)
    return "".join([fixed_values.get(net, known.get(net, "x")) for net in range(circuit.net_count)])


def device_groups(circuit, fixed):
    """The lists of the devices that can be parts of one path without a fixed net in between."""
    groups = Groups(circuit.net_count)
    members = {}
    for device in circuit.devices:
        end, other = device[2:4]
        if end not in fixed and other not in fixed:
            groups.unite(end, other)
    for device in circuit.devices:
        free_ends = [net for net in device[2:4] if net not in fixed]
        if free_ends:
            members.setdefault(groups.root(free_ends[0]), []).append(device)
    return list(members.values())


def indexes_by_gate(groups):
    """A dict that gives for each net the list of the indexes of the groups of devices in which it is a gate."""
    indexes = {}
    for index, devices in enumerate(groups):
        for gate in sorted(set([device[1] for device in devices])):
            indexes.setdefault(gate, []).append(index)
    return indexes


def settle(circuit, fixed):
    """The string of the values of all nets when nothing changes any more."""
    fixed_values = dict(fixed)
    groups = device_groups(circuit, fixed_values)
    watching = indexes_by_gate(groups)
    values = [fixed_values.get(net, "x") for net in range(circuit.net_count)]
    # What is known stays known, and within a group nothing changes before the value of one of its gates does. So a
    # round looks only at the groups of such gates, and only for what becomes known.
    due = list(range(len(groups)))
    while due:
        changes = {}
        for index in due:
            known = known_values(groups[index], fixed_values, values)
            changes.update({net: value for net, value in known.items() if values[net] == "x"})
        for net, value in changes.items():
            values[net] = value
        due = sorted(set([index for net in changes for index in watching.get(net, [])]))
    return "".join(values)


def combinations_of(count):
    """The ascending list of the strings of this many values "0" and "1"."""
    found = [""]
    for _ in range(count):
        found = [values + value for values in found for value in ("0", "1")]
    return found


def table(circuit, inputs, output):
    """The list of the values of an output for each combination of values of inputs, all of which are names."""
    nets = {name: net for net, name in circuit.names}
    for name in [*inputs, output]:
        if name not in nets:
            raise UnknownName(name)
    supplies = [(nets[name], value) for name, value in SUPPLIES if name in nets]
    found = []
    for values in combinations_of(len(inputs)):
        fixed = supplies + [(nets[name], value) for name, value in zip(inputs, values)]
        found.append(settle(circuit, fixed)[nets[output]])
    return found
