"""Exact fractions: pairs of a top and a bottom, whole numbers in lowest terms, the bottom above 0."""


def greatest_divisor(one, other):
    """The greatest whole number that divides both."""
    while other != 0:
        rest = one % other
        one = other
        other = rest
    return one


def ratio(top, bottom):
    """The fraction of two whole numbers, in lowest terms."""
    divisor = greatest_divisor(top, bottom)
    return (top // divisor, bottom // divisor)


def plus(one, other):
    """The sum of two fractions."""
    return ratio(one[0] * other[1] + other[0] * one[1], one[1] * other[1])


def minus(one, other):
    """The first of two fractions less the second, which is not above it."""
    return ratio(one[0] * other[1] - other[0] * one[1], one[1] * other[1])


def times(one, other):
    """The product of two fractions."""
    return ratio(one[0] * other[0], one[1] * other[1])


def complement(one):
    """1 less a fraction, which is not above it."""
    return (one[1] - one[0], one[1])


def is_at_most(one, other):
    """Whether the first of two fractions is not above the second."""
    return one[0] * other[1] <= other[0] * one[1]


def is_at_most_half(one):
    """Whether a fraction is not above 1/2."""
    return 2 * one[0] <= one[1]


def mean(weights, values):
    """The mean of fractions, each counted as often as its weight, a whole number, tells."""
    bottom = 1
    for value in values:
        bottom = bottom // greatest_divisor(bottom, value[1]) * value[1]
    top = 0
    for weight, value in zip(weights, values):
        top = top + weight * value[0] * (bottom // value[1])
    return ratio(top, sum(weights) * bottom)


def of_byte(byte):
    """The fraction that a byte stands for."""
    return ratio(byte, 255)


def as_byte(one):
    """A fraction from 0 to 1 as a byte: 255 times it, to the nearest whole number, ties up."""
    return (510 * one[0] + one[1]) // (2 * one[1])
