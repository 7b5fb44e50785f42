"""The blend modes: what a channel of the lower pixel and one of the upper pixel come to."""

from layerimages.ratios import complement, is_at_most, is_at_most_half, minus, plus, ratio, times


def normal(lower, upper):
    """Mode 0."""
    return upper


def multiply(lower, upper):
    """Mode 1."""
    return times(lower, upper)


def screen(lower, upper):
    """Mode 2."""
    return complement(times(complement(lower), complement(upper)))


def overlay(lower, upper):
    """Mode 3: hard light with the two channels exchanged."""
    return hard_light(upper, lower)


def hard_light(lower, upper):
    """Mode 4."""
    if is_at_most_half(upper):
        return times((2, 1), times(upper, lower))
    return complement(times((2, 1), times(complement(upper), complement(lower))))


def darken(lower, upper):
    """Mode 5."""
    if is_at_most(lower, upper):
        return lower
    return upper


def lighten(lower, upper):
    """Mode 6."""
    if is_at_most(lower, upper):
        return upper
    return lower


def difference(lower, upper):
    """Mode 7."""
    return minus(lighten(lower, upper), darken(lower, upper))


def add(lower, upper):
    """Mode 8."""
    return darken(plus(lower, upper), (1, 1))


def subtract(lower, upper):
    """Mode 9."""
    if is_at_most(lower, upper):
        return (0, 1)
    return minus(lower, upper)


def colour_dodge(lower, upper):
    """Mode 10."""
    if lower[0] == 0:
        return (0, 1)
    # What the upper channel leaves is 0 where it is 1, so nothing is divided by 0 below.
    left = complement(upper)
    if is_at_most(left, lower):
        return (1, 1)
    return ratio(lower[0] * left[1], lower[1] * left[0])


def colour_burn(lower, upper):
    """Mode 11."""
    if lower[0] == lower[1]:
        return (1, 1)
    missing = complement(lower)
    if is_at_most(upper, missing):
        return (0, 1)
    return complement(ratio(missing[0] * upper[1], missing[1] * upper[0]))


# The modes by their numbers.
MODES = (
    normal, multiply, screen, overlay, hard_light, darken, lighten, difference, add, subtract,
    colour_dodge, colour_burn,
)


def blend(mode, lower, upper):
    """The result of a mode for one channel."""
    return MODES[mode](lower, upper)
