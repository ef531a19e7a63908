"""Written schematics."""

from reticle.errors import InvalidText
from reticle.layouts import is_name
from reticle.schematics import MOST_BLOCKS, Block, Schematic, are_ports, is_block_device, is_use
from reticle.words import read_integers


def block_lines(block):
    """The list of the lines of a block, each as a list of words."""
    lines = [["block", block.name, *block.ports]]
    lines.extend([["device", *device] for device in block.devices])
    lines.extend([["use", name, *nets] for name, nets in block.uses])
    return lines


def format_schematic(schematic):
    """The text of a schematic."""
    lines = []
    for name in schematic.block_names:
        lines.extend(block_lines(schematic.block(name)))
    return "\n".join([" ".join([str(word) for word in words]) for words in lines])


class BlockList:
    """The blocks that were read so far. The last one is not completed yet."""

    def __init__(self):
        self._completed = {}
        self._name = None
        self._ports = []
        self._devices = []
        self._uses = []

    def take(self, words):
        """Takes in the words of the next line. Gives False if the line is wrong, otherwise True."""
        if words[0] == "block" and len(words) >= 2:
            return self._take_block(words[1], words[2:])
        if words[0] == "device" and len(words) == 7:
            return self._take_device(words[1:5], read_integers(words[5:]))
        if words[0] == "use" and len(words) >= 2:
            return self._take_use(words[1], tuple(words[2:]))
        return False

    def whole(self):
        """The schematic of all blocks. Nothing is taken in after this."""
        self._complete()
        return Schematic(list(self._completed.values()))

    def _complete(self):
        if self._name is not None:
            self._completed[self._name] = Block(self._name, self._ports, self._devices, self._uses)

    def _take_block(self, name, ports):
        self._complete()
        is_new = name not in self._completed and len(self._completed) < MOST_BLOCKS
        if not is_new or not is_name(name) or not are_ports(ports):
            return False
        self._name = name
        self._ports = ports
        self._devices = []
        self._uses = []
        return True

    def _take_device(self, words, sizes):
        if self._name is None or self._uses or sizes is None or not is_block_device((*words, *sizes)):
            return False
        self._devices.append((*words, *sizes))
        return True

    def _take_use(self, name, nets):
        # The block that is being read is not completed, so it cannot use itself.
        if name not in self._completed or len(nets) != len(self._completed[name].ports) or not is_use((name, nets)):
            return False
        self._uses.append((name, nets))
        return True


def parse_schematic(text):
    """The schematic that a text writes. Raises InvalidText with the number of the first wrong line."""
    blocks = BlockList()
    # The text without any line is the schematic without blocks, not one with an empty line.
    lines = text.split("\n") if text != "" else []
    for number, line in enumerate(lines, start=1):
        if not blocks.take(line.split(" ")):
            raise InvalidText(number)
    return blocks.whole()
