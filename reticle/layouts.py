"""Layouts: the squares of each layer, and labels."""

from reticle.moves import move_box, move_square
from reticle.regions import region_of

LAYERS = ("well", "active", "poly", "contact", "metal", "via", "top")

LABEL_LAYERS = ("active", "poly", "metal", "top")

MOST_CHARACTERS = 12


def is_name(name):
    """True if a string is a name: 1 to 12 lower-case letters and digits, the first one a letter."""
    if not 1 <= len(name) <= MOST_CHARACTERS or not "a" <= name[0] <= "z":
        return False
    return all(["a" <= sign <= "z" or "0" <= sign <= "9" for sign in name])


def moved_shape(move, shape):
    """The image of a shape."""
    layer, box = shape
    return (layer, move_box(move, box))


def moved_label(move, label):
    """The image of a label, which names the image of its square."""
    name, layer, x, y = label
    square = move_square(move, x, y)
    return (name, layer, *square)


class Layout:
    """A region for each layer, and a set of labels."""

    def __init__(self, shapes, labels):
        self._regions = {}
        for layer in LAYERS:
            self._regions[layer] = region_of([shape[1] for shape in shapes if shape[0] == layer])
        self.labels = tuple(sorted(set(labels)))

    def region(self, layer):
        """The region of a layer."""
        return self._regions[layer]

    def moved(self, move):
        """The image of the layout, a new Layout."""
        shapes = [moved_shape(move, shape) for shape in self.shapes()]
        return Layout(shapes, [moved_label(move, label) for label in self.labels])

    def shapes(self):
        """The list of the boxes of all regions as shapes, layer by layer, each layer in the order of its region."""
        return [(layer, box) for layer in LAYERS for box in self._regions[layer]]

    def __eq__(self, other):
        return isinstance(other, Layout) and self._regions == other._regions and self.labels == other.labels
