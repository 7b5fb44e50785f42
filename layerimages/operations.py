"""The operations: each answers a list of numbers, or raises its error before it changes anything."""

from layerimages.compositing import image_pixel, own_pixel
from layerimages.layers import AdjustmentLayer, Group, RasterLayer, empty_pixel
from layerimages.pixels import bytes_of_pixel
from layerimages.refusals import CannotClip, NoSuchLayer, OutOfRange, TooFewLayers, WrongSetting

LARGEST_SIDE = 6
MOST_LAYERS = 12
HIGHEST_LEVEL = 4
HIGHEST_BYTE = 255
HIGHEST_MODE = 11
HIGHEST_KIND = 2


def check_side(length):
    """Refuse a width or a height that no canvas has."""
    if length < 1 or length > LARGEST_SIDE:
        raise OutOfRange()


def check_setting(value, highest):
    """Refuse a byte, a mode, a kind or a switch above its highest value."""
    if value > highest:
        raise WrongSetting()


def check_room(document, parent):
    """Refuse a new layer where there is no group for it, or no room."""
    document.members_of(parent)
    if len(document.layers) >= MOST_LAYERS:
        raise OutOfRange()
    if document.level_in(parent) > HIGHEST_LEVEL:
        raise OutOfRange()


def new_canvas(document, width, height):
    """Start a new document with a canvas of this size."""
    check_side(width)
    check_side(height)
    document.begin(width, height)
    return [0]


def add_layer(document, parent):
    """Add a raster layer with empty pixels as the highest of a group."""
    check_room(document, parent)
    return [document.put_highest(RasterLayer(parent, document.size()))]


def add_group(document, parent, pass_through):
    """Add a group without layers as the highest of a group."""
    check_setting(pass_through, 1)
    check_room(document, parent)
    return [document.put_highest(Group(parent, document.size(), pass_through))]


def add_adjustment(document, parent, kind):
    """Add an adjustment layer as the highest of a group."""
    check_setting(kind, HIGHEST_KIND)
    check_room(document, parent)
    return [document.put_highest(AdjustmentLayer(parent, document.size(), kind))]


def paint(document, number, x, y, width, height, red, green, blue, alpha):
    """Set the pixels of a raster layer in a box."""
    layer = document.find_layer(number)
    if not isinstance(layer, RasterLayer):
        raise NoSuchLayer()
    for byte in (red, green, blue, alpha):
        check_setting(byte, HIGHEST_BYTE)
    painted = (red, green, blue, alpha)
    if alpha == 0:
        # A pixel with alpha 0 is black, whatever colour it is painted with.
        painted = empty_pixel()
    for place in document.box(x, y, width, height):
        layer.pixels[place] = painted
    return [0]


def set_mask(document, number, x, y, width, height, value):
    """Set the mask of a layer in a box."""
    layer = document.find_layer(number)
    check_setting(value, HIGHEST_BYTE)
    for place in document.box(x, y, width, height):
        layer.mask[place] = value
    return [0]


def set_layer(document, number, mode, opacity, clip, visible):
    """Set how a layer is blended, and whether it is clipped and visible."""
    layer = document.find_layer(number)
    check_setting(mode, HIGHEST_MODE)
    check_setting(opacity, HIGHEST_BYTE)
    check_setting(clip, 1)
    check_setting(visible, 1)
    if clip == 1 and isinstance(layer, Group) and layer.pass_through == 1:
        raise CannotClip()
    layer.mode = mode
    layer.opacity = opacity
    layer.clip = clip
    layer.visible = visible
    return [0]


def move(document, number, parent, position):
    """Move a layer, with everything in it, to a place in a group."""
    document.find_layer(number)
    others = [other for other in document.members_of(parent) if other != number]
    if parent in document.with_inner(number):
        raise NoSuchLayer()
    if document.level_in(parent) + document.levels_of(number) - 1 > HIGHEST_LEVEL:
        raise OutOfRange()
    if position > len(others):
        raise TooFewLayers()
    document.put_into(number, parent, position)
    return [0]


def remove(document, number):
    """Remove a layer and everything in it."""
    document.find_layer(number)
    return [document.take_out(number)]


def render(document):
    """The bytes of all pixels of the image, row by row."""
    numbers = []
    for place in range(document.size()):
        numbers.extend(bytes_of_pixel(image_pixel(document, place)))
    return numbers


def pixel(document, x, y):
    """The exact values of one pixel of the image: for each one its two whole numbers."""
    if x >= document.width or y >= document.height:
        raise OutOfRange()
    numbers = []
    for value in image_pixel(document, y * document.width + x):
        numbers.extend(value)
    return numbers


def render_layer(document, number):
    """The bytes of the own pixels of a raster layer or of a group, row by row."""
    layer = document.find_layer(number)
    if isinstance(layer, AdjustmentLayer):
        raise NoSuchLayer()
    numbers = []
    for place in range(document.size()):
        numbers.extend(bytes_of_pixel(own_pixel(document, layer, place)))
    return numbers


def list_layers(document, parent):
    """How many layers a group has, and what each of them is set to, from the lowest on."""
    members = document.members_of(parent)
    numbers = [len(members)]
    for number in members:
        layer = document.layers[number]
        numbers.extend([number, layer.mode, layer.opacity, layer.clip, layer.visible])
    return numbers
