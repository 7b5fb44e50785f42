"""Pixels in exact fractions: tuples of red, green, blue and alpha. One with alpha 0 is black."""

from layerimages.modes import blend
from layerimages.ratios import as_byte, complement, is_at_most_half, mean, of_byte, ratio, times


def nothing():
    """The empty pixel."""
    return ((0, 1), (0, 1), (0, 1), (0, 1))


def pixel_of_bytes(four):
    """The pixel that four bytes stand for."""
    return tuple([of_byte(byte) for byte in four])


def bytes_of_pixel(pixel):
    """The red, green, blue and alpha of a pixel as bytes."""
    return [as_byte(part) for part in pixel]


def over(mode, weight, lower, upper):
    """The upper pixel laid over the lower one."""
    applied = times(weight, upper[3])
    behind = lower[3]
    # How much of the upper colour, of the blended one and of the lower one the new colour has:
    # the formula's factors, multiplied by both denominators so that they are whole numbers.
    shares = (
        applied[0] * (behind[1] - behind[0]),
        applied[0] * behind[0],
        (applied[1] - applied[0]) * behind[0],
    )
    alpha = ratio(sum(shares), applied[1] * behind[1])
    if alpha[0] == 0:
        return nothing()
    colour = [
        mean(shares, (upper[part], blend(mode, lower[part], upper[part]), lower[part]))
        for part in range(3)
    ]
    return (colour[0], colour[1], colour[2], alpha)


def atop(mode, weight, lower, upper):
    """The upper pixel laid on the lower one alone, which keeps its alpha."""
    if lower[3][0] == 0:
        return nothing()
    applied = times(weight, upper[3])
    shares = (applied[1] - applied[0], applied[0])
    colour = [
        mean(shares, (lower[part], blend(mode, lower[part], upper[part]))) for part in range(3)
    ]
    return (colour[0], colour[1], colour[2], lower[3])


def mix(weight, before, after):
    """The pixel of a pass-through group: as much of the pixel after it as its weight tells."""
    old = times(complement(weight), before[3])
    new = times(weight, after[3])
    shares = (old[0] * new[1], new[0] * old[1])
    alpha = ratio(sum(shares), old[1] * new[1])
    if alpha[0] == 0:
        return nothing()
    colour = [mean(shares, (before[part], after[part])) for part in range(3)]
    return (colour[0], colour[1], colour[2], alpha)


def nearer_to_its_end(channel):
    """A channel up to 1/2 halved; one above it with half of its distance from 1."""
    if is_at_most_half(channel):
        return times((1, 2), channel)
    return complement(times((1, 2), complement(channel)))


def adjusted(kind, below):
    """The pixel of an adjustment layer of this kind above a pixel."""
    colour = list(below[:3])
    if kind == 0:
        colour = [complement(channel) for channel in colour]
    elif kind == 1:
        colour = [mean((3, 6, 1), colour)] * 3
    else:
        colour = [nearer_to_its_end(channel) for channel in colour]
    return (colour[0], colour[1], colour[2], (1, 1))
