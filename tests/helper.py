"""What the tests share: calls by name, answers call by call, and a look at a whole document."""

from fractions import Fraction

from layerimages.canvas import answer_call, answers
from layerimages.document import Document
from layerimages.layers import AdjustmentLayer, Group, RasterLayer

LARGEST = 4294967295


def new_canvas(width, height):
    return [0, width, height]


def add_layer(parent):
    return [1, parent]


def add_group(parent, pass_through):
    return [2, parent, pass_through]


def add_adjustment(parent, kind):
    return [3, parent, kind]


def paint(layer, box, colour):
    return [4, layer, *box, *colour]


def set_mask(layer, box, value):
    return [5, layer, *box, value]


def set_layer(layer, mode, opacity, clip, visible):
    return [6, layer, mode, opacity, clip, visible]


def move(layer, parent, position):
    return [7, layer, parent, position]


def remove(layer):
    return [8, layer]


def render():
    return [9]


def pixel(x, y):
    return [10, x, y]


def render_layer(layer):
    return [11, layer]


def list_layers(parent):
    return [12, parent]


def flat(calls):
    return [number for call in calls for number in call]


def answer_lists(calls):
    """The answers of a list of calls, a list for each call."""
    told = answers(flat(calls))
    lists = []
    place = 0
    while place < len(told):
        count = told[place]
        lists.append(told[place + 1:place + 1 + count])
        assert len(lists[-1]) == count, told
        place += 1 + count
    assert len(lists) == len(calls), told
    return lists


def single_answers(calls):
    """The answers of calls that answer one number each."""
    lists = answer_lists(calls)
    assert all(len(numbers) == 1 for numbers in lists), lists
    return [numbers[0] for numbers in lists]


def last_answer(calls):
    return single_answers(calls)[-1]


def fractions_of(numbers):
    """What pixel answers, as four fractions: red, green, blue and alpha."""
    return [Fraction(top, bottom) for top, bottom in zip(numbers[::2], numbers[1::2])]


def exact_pixel(calls, x=0, y=0):
    """The exact values of a pixel of the image after these calls."""
    return fractions_of(answer_lists(calls + [pixel(x, y)])[-1])


def image_after(calls):
    """The bytes of the image after these calls, four for each pixel."""
    numbers = answer_lists(calls + [render()])[-1]
    return [tuple(numbers[start:start + 4]) for start in range(0, len(numbers), 4)]


def order_after(calls, parent=0):
    """The numbers of the layers of a group after these calls, from the lowest on."""
    numbers = answer_lists(calls + [list_layers(parent)])[-1]
    assert len(numbers) == 1 + 5 * numbers[0], numbers
    return numbers[1::5]


def document_after(calls):
    """The document after these calls, none of which may fail."""
    document = Document()
    for call in calls:
        told = answer_call(document, call)
        assert told[0] >= 0, (call, told)
    return document


def look_at_layer(layer):
    seen = {
        "parent": layer.parent,
        "mode": layer.mode,
        "opacity": layer.opacity,
        "clip": layer.clip,
        "visible": layer.visible,
        "mask": list(layer.mask),
    }
    if isinstance(layer, RasterLayer):
        seen["pixels"] = list(layer.pixels)
    if isinstance(layer, Group):
        seen["pass_through"] = layer.pass_through
        seen["members"] = list(layer.members)
    if isinstance(layer, AdjustmentLayer):
        seen["kind"] = layer.kind
    return seen


def look_at(document):
    """All that a document keeps, as plain values that later calls can't change."""
    return {
        "width": document.width,
        "height": document.height,
        "root": list(document.root),
        "next number": document.next_number,
        "layers": {number: look_at_layer(layer) for number, layer in document.layers.items()},
    }
