"""Stores: shapes that are being edited, with an index of each layer and with changes that can be undone."""

from reticle.boxes import overlap
from reticle.errors import NothingToRedo, NothingToUndo, UnknownMark, UnknownShape
from reticle.layouts import LAYERS, Layout
from reticle.trees import Tree

# A tree is built anew after more changes than this, and one more for each so many numbers in it.
SLACK = 8

ADDED = "added"

REMOVED = "removed"


class LayerIndex:
    """The boxes of one layer: a tree of those that were there when it was built, and those that came later."""

    def __init__(self):
        self._boxes = {}
        self._in_tree = {}
        self._late = {}
        self._tree = Tree([])

    def put_in(self, number, box):
        """Puts in a box; a number always comes with the same box."""
        self._boxes[number] = box
        if number not in self._in_tree:
            self._late[number] = box

    def take_out(self, number):
        """Takes out a box; in the tree its number stays until the tree is built anew."""
        del self._boxes[number]
        if number in self._late:
            del self._late[number]

    def find(self, window):
        """The ascending list of the numbers whose boxes overlap the window."""
        self._refresh()
        found = [number for number in self._tree.find(window) if number in self._boxes]
        found.extend([number for number, box in self._late.items() if overlap(box, window) is not None])
        return sorted(found)

    def _refresh(self):
        # Building the tree anew for each change would cost more than looking at the few late boxes.
        gone = len(self._in_tree) + len(self._late) - len(self._boxes)
        if gone + len(self._late) > SLACK + len(self._in_tree) // SLACK:
            self._tree = Tree(list(self._boxes.items()))
            self._in_tree = {number: True for number in self._boxes}
            self._late = {}


class Store:
    """Shapes with numbers, of which none is used twice."""

    def __init__(self):
        self._numbered = []
        self._shapes = {}
        self._indexes = {layer: LayerIndex() for layer in LAYERS}
        self._done = []
        self._undone = []

    def __len__(self):
        return len(self._shapes)

    def add(self, layer, box):
        """Adds a shape and returns its number."""
        number = len(self._numbered)
        self._numbered.append((layer, box))
        self._change(ADDED, number)
        return number

    def remove(self, number):
        """Removes the shape with a number."""
        if number not in self._shapes:
            raise UnknownShape(number)
        self._change(REMOVED, number)

    def shape(self, number):
        """The shape with a number, a pair of its layer and its box."""
        if number not in self._shapes:
            raise UnknownShape(number)
        return self._shapes[number]

    def find(self, layer, window):
        """The ascending list of the numbers of the shapes on a layer that overlap the window."""
        return self._indexes[layer].find(window)

    def find_square(self, layer, x, y):
        """The ascending list of the numbers of the shapes on a layer that contain the square (x, y)."""
        return self.find(layer, (x, y, x + 1, y + 1))

    def numbers(self):
        """The ascending list of the numbers of all shapes in the store."""
        return sorted(self._shapes)

    @property
    def mark(self):
        """The number of changes that are in effect."""
        return len(self._done)

    def undo(self):
        """Takes back the last change that is in effect."""
        if not self._done:
            raise NothingToUndo("no change is in effect")
        kind, number = self._done.pop()
        self._undone.append((kind, number))
        if kind == ADDED:
            self._take_out(number)
        else:
            self._put_in(number)

    def redo(self):
        """Makes the change again that was undone last."""
        if not self._undone:
            raise NothingToRedo("no change was undone since the last new one")
        kind, number = self._undone.pop()
        self._carry_out(kind, number)

    def back_to(self, mark):
        """Undoes changes until only as many are in effect as the mark says."""
        if not 0 <= mark <= len(self._done):
            raise UnknownMark(f"{mark} is no mark of the past")
        while len(self._done) > mark:
            self.undo()

    def layout(self):
        """The Layout of the shapes in the store, without labels."""
        return Layout(list(self._shapes.values()), [])

    def _change(self, kind, number):
        self._undone = []
        self._carry_out(kind, number)

    def _carry_out(self, kind, number):
        self._done.append((kind, number))
        if kind == ADDED:
            self._put_in(number)
        else:
            self._take_out(number)

    def _put_in(self, number):
        layer, box = self._numbered[number]
        self._shapes[number] = (layer, box)
        self._indexes[layer].put_in(number, box)

    def _take_out(self, number):
        layer, _ = self._shapes[number]
        del self._shapes[number]
        self._indexes[layer].take_out(number)
