"""The errors of the program."""


class ReticleError(ValueError):
    """The base class of all errors of the program."""


class InvalidCell(ReticleError):
    """A part of a cell is not valid."""


class InvalidLibrary(ReticleError):
    """The cells do not make up a library."""


class UnknownCell(ReticleError):
    """There is no cell or block of this name."""

    def __init__(self, name):
        super().__init__(f"there is no cell {name}")
        self.name = name


class TooLarge(ReticleError):
    """Something is larger than a limit allows."""

    def __init__(self, limit):
        super().__init__(f"the limit of {limit} is exceeded")
        self.limit = limit


class InvalidText(ReticleError):
    """A line of a text is wrong."""

    def __init__(self, line):
        super().__init__(f"line {line} is wrong")
        self.line = line


class UnknownShape(ReticleError):
    """No shape of this number is in the store."""

    def __init__(self, number):
        super().__init__(f"there is no shape {number}")
        self.number = number


class NothingToUndo(ReticleError):
    """No change is in effect."""


class NothingToRedo(ReticleError):
    """No change was undone since the last new one."""


class UnknownMark(ReticleError):
    """The mark is negative or greater than the present one."""


class InvalidRule(ReticleError):
    """A rule of a deck is not valid."""

    def __init__(self, index):
        super().__init__(f"rule {index} is not valid")
        self.index = index


class BadChannel(ReticleError):
    """A channel is not well formed."""

    def __init__(self, region):
        super().__init__("a channel is not well formed")
        self.region = region


class Shorted(ReticleError):
    """Labels with different names lie on one net."""

    def __init__(self, names):
        super().__init__("a net has several names")
        self.names = list(names)


class Split(ReticleError):
    """Labels with one name lie on different nets."""

    def __init__(self, name):
        super().__init__(f"the name {name} lies on several nets")
        self.name = name


class InvalidCircuit(ReticleError):
    """A circuit is not valid."""


class InvalidLoop(ReticleError):
    """A loop is not valid."""

    def __init__(self, index):
        super().__init__(f"loop {index} is not valid")
        self.index = index


class NoWire(ReticleError):
    """A barrier separates the two nets."""

    def __init__(self, barrier):
        super().__init__("there is no wire between the nets")
        self.barrier = barrier


class UnknownNet(ReticleError):
    """There is no net of this number."""

    def __init__(self, net):
        super().__init__(f"there is no net {net}")
        self.net = net


class InvalidDeck(ReticleError):
    """A deck is not valid."""


class InvalidBlock(ReticleError):
    """A block is not valid."""


class InvalidSchematic(ReticleError):
    """The blocks do not make up a schematic."""


class UnknownName(ReticleError):
    """No net of a circuit has this name."""

    def __init__(self, name):
        super().__init__(f"there is no net called {name}")
        self.name = name


class InvalidNetRule(ReticleError):
    """A net rule is not valid."""

    def __init__(self, index):
        super().__init__(f"net rule {index} is not valid")
        self.index = index


class Crowded(ReticleError):
    """Two boxes are near, and neither is before the other."""

    def __init__(self, first, second):
        super().__init__(f"boxes {first} and {second} are crowded")
        self.first = first
        self.second = second


class NotPackable(ReticleError):
    """A cell has shapes or labels of its own, or a copy that has no hull or a label outside of it."""
