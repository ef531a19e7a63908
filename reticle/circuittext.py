"""Written circuits."""

from reticle.circuits import MOST_DEVICES, Circuit, is_device, is_net_count
from reticle.errors import InvalidText
from reticle.layouts import is_name
from reticle.words import read_integers


def device_line(device):
    """The line of a device."""
    kind, gate, end, other, width, length = device
    return f"device {kind} {gate} {end} {other} {width} {length}"


def format_circuit(circuit):
    """The text of a circuit."""
    lines = [f"nets {circuit.net_count}"]
    lines.extend([f"name {name} {net}" for net, name in circuit.names])
    lines.extend([device_line(device) for device in circuit.devices])
    return "\n".join(lines)


def net_count_in(words):
    """The number of nets that the words of a line give, or None if this is no line for it."""
    numbers = read_integers(words[1:])
    if len(words) != 2 or words[0] != "nets" or numbers is None:
        return None
    return numbers[0] if is_net_count(numbers[0]) else None


def name_in(words, net_count, names):
    """The pair of a net and its name that the words of a line give behind other names, or None if it is wrong."""
    numbers = read_integers(words[2:])
    if len(words) != 3 or words[0] != "name" or numbers is None:
        return None
    name, net = words[1], numbers[0]
    last_net = names[-1][0] if names else -1
    if not last_net < net < net_count or not is_name(name) or name in [other for _, other in names]:
        return None
    return (net, name)


def device_in(words, net_count):
    """The device that the words of a line give, or None if it is wrong."""
    numbers = read_integers(words[2:])
    if len(words) != 7 or words[0] != "device" or numbers is None:
        return None
    device = (words[1], *numbers)
    return device if is_device(device, net_count) else None


def parse_circuit(text):
    """The circuit that a text writes. Raises InvalidText with the number of the first wrong line."""
    lines = [line.split(" ") for line in text.split("\n")]
    net_count = net_count_in(lines[0])
    if net_count is None:
        raise InvalidText(1)
    names = []
    devices = []
    for number, words in enumerate(lines[1:], start=2):
        # No name stands behind a device.
        name = None if devices else name_in(words, net_count, names)
        device = device_in(words, net_count) if len(devices) < MOST_DEVICES else None
        if name is not None:
            names.append(name)
        elif device is not None:
            devices.append(device)
        else:
            raise InvalidText(number)
    return Circuit(net_count, names, devices)
