"""The document: the canvas, its layers and the order in which they lie."""

from layerimages.layers import Group
from layerimages.refusals import NoSuchLayer


class Document:
    """A canvas, all layers by their numbers, and the numbers in the root from the lowest on."""

    def __init__(self):
        self.begin(1, 1)

    def begin(self, width, height):
        """Forget everything: a canvas of this size, no layers, numbers from 1."""
        self.width = width
        self.height = height
        self.layers = {}
        self.root = []
        self.next_number = 1

    def size(self):
        """How many positions the canvas has."""
        return self.width * self.height

    def find_layer(self, number):
        """The layer with this number."""
        layer = self.layers.get(number)
        if layer is None:
            raise NoSuchLayer()
        return layer

    def members_of(self, parent):
        """The numbers of the layers of a group (0: the root), from the lowest to the highest."""
        if parent == 0:
            return self.root
        layer = self.find_layer(parent)
        if not isinstance(layer, Group):
            raise NoSuchLayer()
        return layer.members

    def level_in(self, parent):
        """The level that a layer of this group (0: the root) has."""
        level = 1
        group = parent
        while group != 0:
            group = self.layers[group].parent
            level = level + 1
        return level

    def with_inner(self, number):
        """The number of a layer, and then those of all layers in it."""
        found = [number]
        looked_at = 0
        while looked_at < len(found):
            layer = self.layers[found[looked_at]]
            if isinstance(layer, Group):
                found.extend(layer.members)
            looked_at = looked_at + 1
        return found

    def levels_of(self, number):
        """How many levels a layer and those in it take up."""
        above = self.level_in(self.layers[number].parent) - 1
        return max([self.level_in(self.layers[one].parent) for one in self.with_inner(number)]) - above

    def put_highest(self, layer):
        """Put a new layer above all others of its group, and answer its number."""
        number = self.next_number
        self.members_of(layer.parent).append(number)
        self.layers[number] = layer
        self.next_number = number + 1
        return number

    def put_into(self, number, parent, position):
        """Move a layer to a group (0: the root), with so many of its other layers below it."""
        layer = self.layers[number]
        self.members_of(layer.parent).remove(number)
        self.members_of(parent).insert(position, number)
        layer.parent = parent

    def take_out(self, number):
        """Remove a layer and everything in it, and answer how many layers these are."""
        gone = self.with_inner(number)
        self.members_of(self.layers[number].parent).remove(number)
        for one in gone:
            self.layers.pop(one)
        return len(gone)

    def box(self, x, y, width, height):
        """The places, in a list with one for each position, of the box's part on the canvas."""
        right = min(x + width, self.width)
        bottom = min(y + height, self.height)
        places = []
        for row in range(y, bottom):
            for column in range(x, right):
                places.append(row * self.width + column)
        return places
