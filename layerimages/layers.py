"""The layers of an image: what each kind of layer keeps."""


def empty_pixel():
    """The red, green, blue and alpha of a pixel with alpha 0."""
    return (0, 0, 0, 0)


class Layer:
    """What every layer keeps: the group it lies in, its settings, a mask byte for each position."""

    def __init__(self, parent, size):
        self.parent = parent
        self.mode = 0
        self.opacity = 255
        self.clip = 0
        self.visible = 1
        self.mask = [255] * size


class RasterLayer(Layer):
    """A layer with a pixel for each position: red, green, blue and alpha, as bytes."""

    def __init__(self, parent, size):
        Layer.__init__(self, parent, size)
        self.pixels = [empty_pixel()] * size


class Group(Layer):
    """A layer that contains layers: their numbers, from the lowest to the highest."""

    def __init__(self, parent, size, pass_through):
        Layer.__init__(self, parent, size)
        self.pass_through = pass_through
        self.members = []


class AdjustmentLayer(Layer):
    """A layer without pixels, which changes the colour below it in the way of its kind."""

    def __init__(self, parent, size, kind):
        Layer.__init__(self, parent, size)
        self.kind = kind
