"""Lists of calls on a new document, and what they answer."""

from layerimages.document import Document
from layerimages.operations import add_adjustment, add_group, add_layer, list_layers, move
from layerimages.operations import new_canvas, paint, pixel, remove, render, render_layer
from layerimages.operations import set_layer, set_mask
from layerimages.refusals import CannotClip, NoSuchLayer, OutOfRange, TooFewLayers, WrongSetting

# How many arguments each operation takes, by its number.
ARGUMENT_COUNTS = (2, 1, 2, 2, 9, 6, 5, 3, 1, 0, 2, 1, 1)


def split_calls(calls):
    """The single calls of a list: for each one a list with its operation and its arguments."""
    single = []
    start = 0
    while start < len(calls):
        end = start + 1 + ARGUMENT_COUNTS[calls[start]]
        single.append(calls[start:end])
        start = end
    return single


def run_call(document, call):
    """The result of one call."""
    operation = call[0]
    if operation == 0:
        return new_canvas(document, call[1], call[2])
    if operation == 1:
        return add_layer(document, call[1])
    if operation == 2:
        return add_group(document, call[1], call[2])
    if operation == 3:
        return add_adjustment(document, call[1], call[2])
    if operation == 4:
        return paint(
            document, call[1], call[2], call[3], call[4], call[5],
            call[6], call[7], call[8], call[9],
        )
    if operation == 5:
        return set_mask(document, call[1], call[2], call[3], call[4], call[5], call[6])
    if operation == 6:
        return set_layer(document, call[1], call[2], call[3], call[4], call[5])
    if operation == 7:
        return move(document, call[1], call[2], call[3])
    if operation == 8:
        return remove(document, call[1])
    if operation == 9:
        return render(document)
    if operation == 10:
        return pixel(document, call[1], call[2])
    if operation == 11:
        return render_layer(document, call[1])
    return list_layers(document, call[1])


def answer_call(document, call):
    """What one call answers: its result, or the code of its error alone."""
    try:
        return run_call(document, call)
    except OutOfRange:
        return [-1]
    except NoSuchLayer:
        return [-2]
    except WrongSetting:
        return [-3]
    except CannotClip:
        return [-4]
    except TooFewLayers:
        return [-5]


def answers(calls):
    """For each call in order: how many numbers it answers, then these numbers."""
    document = Document()
    told = []
    for call in split_calls(calls):
        numbers = answer_call(document, call)
        told.append(len(numbers))
        told.extend(numbers)
    return told
