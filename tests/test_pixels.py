"""over, atop, mixing and adjusted colours; points 1 to 4 and 8."""

import unittest
from fractions import Fraction

from layerimages import pixels
from layerimages.modes import blend

EMPTY = (Fraction(0),) * 4
WEIGHTS = [Fraction(0), Fraction(1, 65025), Fraction(2, 5), Fraction(1)]
COLOURS = [
    (Fraction(0), Fraction(1, 2), Fraction(1)), (Fraction(1), Fraction(51, 255), Fraction(1, 3)),
    (Fraction(3, 4), Fraction(0), Fraction(2, 7)),
]
ALPHAS = [Fraction(1, 255), Fraction(3, 5), Fraction(1)]
PIXELS = [EMPTY] + [(*colour, alpha) for colour in COLOURS for alpha in ALPHAS]
OPAQUE = [(*colour, Fraction(1)) for colour in COLOURS]


def pair(value):
    return (value.numerator, value.denominator)


def given(values):
    return tuple([pair(value) for value in values])


def taken(answer):
    """A pixel of the program as fractions, after a look at its form and at point 2."""
    values = tuple(Fraction(top, bottom) for top, bottom in answer)
    assert tuple(answer) == given(values), answer
    assert len(values) == 4 and all(0 <= value <= 1 for value in values), answer
    assert values[3] > 0 or values == EMPTY, answer
    return values


def over(mode, weight, lower, upper):
    return taken(pixels.over(mode, pair(weight), given(lower), given(upper)))


def atop(mode, weight, lower, upper):
    return taken(pixels.atop(mode, pair(weight), given(lower), given(upper)))


def mix(weight, before, after):
    return taken(pixels.mix(pair(weight), given(before), given(after)))


def blended(mode, b, s):
    return Fraction(*blend(mode, pair(b), pair(s)))


def over_by_words(mode, weight, lower, upper):
    a = weight * upper[3]
    e = lower[3]
    t = a + e - a * e
    if t == 0:
        return EMPTY
    colour = []
    for b, s in zip(lower[:3], upper[:3]):
        m = (1 - e) * s + e * blended(mode, b, s)
        colour.append((a * m + (1 - a) * e * b) / t)
    return (*colour, t)


def atop_by_words(mode, weight, lower, upper):
    a = weight * upper[3]
    if lower[3] == 0:
        return EMPTY
    colour = [(1 - a) * b + a * blended(mode, b, s) for b, s in zip(lower[:3], upper[:3])]
    return (*colour, lower[3])


def mix_by_words(weight, before, after):
    alpha = (1 - weight) * before[3] + weight * after[3]
    if alpha == 0:
        return EMPTY
    return (*[
        ((1 - weight) * before[3] * old + weight * after[3] * new) / alpha
        for old, new in zip(before[:3], after[:3])
    ], alpha)


class FormulasTest(unittest.TestCase):
    def test_over_and_atop_in_every_mode(self):
        for mode in range(12):
            for weight in WEIGHTS:
                for lower in PIXELS:
                    for upper in PIXELS:
                        case = (mode, weight, lower, upper)
                        self.assertEqual(over(*case), over_by_words(*case), case)
                        self.assertEqual(atop(*case), atop_by_words(*case), case)

    def test_mix(self):
        for weight in WEIGHTS:
            for before in PIXELS:
                for after in PIXELS:
                    case = (weight, before, after)
                    self.assertEqual(mix(*case), mix_by_words(*case), case)

    def test_over_half_and_half(self):
        half = Fraction(1, 2)
        self.assertEqual(
            over(1, Fraction(1), (half, Fraction(1), Fraction(0), half), (half, half, half, half)),
            (Fraction(5, 12), Fraction(2, 3), Fraction(1, 6), Fraction(3, 4)),
        )

    def test_atop_half_and_half(self):
        half = Fraction(1, 2)
        self.assertEqual(
            atop(1, half, (half, Fraction(1), Fraction(0), half), (half, half, half, half)),
            (Fraction(7, 16), Fraction(7, 8), Fraction(0), half),
        )

    def test_mix_ends(self):
        for before in PIXELS:
            for after in PIXELS:
                self.assertEqual(mix(Fraction(0), before, after), before)
                self.assertEqual(mix(Fraction(1), before, after), after)


class PointsTest(unittest.TestCase):
    def test_point_1_associative(self):
        one = Fraction(1)
        for b in PIXELS:
            for t in PIXELS:
                for s in PIXELS:
                    self.assertEqual(
                        over(0, one, over(0, one, b, t), s), over(0, one, b, over(0, one, t, s))
                    )

    def test_point_1_an_empty_pixel_is_neutral(self):
        for one in PIXELS:
            self.assertEqual(over(0, Fraction(1), EMPTY, one), one)
            self.assertEqual(over(0, Fraction(1), one, EMPTY), one)

    def test_point_2_chains_of_pixels_stay_pixels(self):
        # taken() looks at each pixel on the way.
        for mode in range(12):
            for weight in WEIGHTS:
                for first in PIXELS:
                    result = first
                    for upper in PIXELS:
                        result = over(mode, weight, result, upper)
                        result = atop(11 - mode, weight, result, upper)
                        result = mix(weight, result, upper)
                    self.assertEqual(result[3] == 0, result == EMPTY)

    def test_point_3_an_upper_pixel_with_alpha_1_replaces_the_lower_one(self):
        for lower in PIXELS:
            for upper in OPAQUE:
                self.assertEqual(over(0, Fraction(1), lower, upper), upper)

    def test_point_3_what_changes_nothing(self):
        for mode in range(12):
            for lower in PIXELS:
                for upper in PIXELS:
                    self.assertEqual(over(mode, Fraction(0), lower, upper), lower)
                for weight in WEIGHTS:
                    self.assertEqual(over(mode, weight, lower, EMPTY), lower)

    def test_point_3_over_an_empty_pixel(self):
        for mode in range(12):
            for weight in WEIGHTS[1:]:
                for upper in PIXELS[1:]:
                    self.assertEqual(
                        over(mode, weight, EMPTY, upper), (*upper[:3], weight * upper[3])
                    )
                self.assertEqual(over(mode, weight, EMPTY, EMPTY), EMPTY)
            for upper in PIXELS:
                self.assertEqual(over(mode, Fraction(0), EMPTY, upper), EMPTY)

    def test_point_4_exchanging_two_pixels(self):
        for mode in (1, 2):
            for lower in OPAQUE:
                for one in PIXELS:
                    for other in PIXELS:
                        for first, second in ((WEIGHTS[2], WEIGHTS[3]), (WEIGHTS[1], WEIGHTS[2])):
                            self.assertEqual(
                                over(mode, second, over(mode, first, lower, one), other),
                                over(mode, first, over(mode, second, lower, other), one),
                            )

    def test_point_8_atop_keeps_the_alpha(self):
        for mode in range(12):
            for weight in WEIGHTS:
                for lower in PIXELS:
                    for upper in PIXELS:
                        self.assertEqual(atop(mode, weight, lower, upper)[3], lower[3])


class BytesTest(unittest.TestCase):
    def test_bytes_and_pixels(self):
        self.assertEqual(
            taken(pixels.pixel_of_bytes((51, 0, 255, 128))),
            (Fraction(1, 5), Fraction(0), Fraction(1), Fraction(128, 255)),
        )
        self.assertEqual(pixels.bytes_of_pixel(((1, 510), (0, 1), (1, 1), (1, 3))), [1, 0, 255, 85])
        self.assertEqual(taken(pixels.nothing()), EMPTY)


class AdjustedTest(unittest.TestCase):
    def adjusted(self, kind, below):
        return taken(pixels.adjusted(kind, given(below)))

    def test_kind_0(self):
        self.assertEqual(
            self.adjusted(0, (Fraction(0), Fraction(1), Fraction(2, 5), Fraction(1, 7))),
            (Fraction(1), Fraction(0), Fraction(3, 5), Fraction(1)),
        )

    def test_kind_1(self):
        for red, green, blue, grey in ((1, 0, 0, 3), (0, 1, 0, 6), (0, 0, 1, 1), (1, 1, 1, 10)):
            below = (Fraction(red), Fraction(green), Fraction(blue), Fraction(1, 7))
            self.assertEqual(self.adjusted(1, below), (Fraction(grey, 10),) * 3 + (Fraction(1),))
        self.assertEqual(
            self.adjusted(1, (Fraction(1, 2), Fraction(1, 3), Fraction(1, 5), Fraction(1))),
            (Fraction(37, 100),) * 3 + (Fraction(1),),
        )

    def test_kind_2(self):
        close = Fraction(1, 10 ** 30)
        half = Fraction(1, 2)
        for channel, due in (
            (Fraction(0), Fraction(0)), (Fraction(1, 3), Fraction(1, 6)), (half, Fraction(1, 4)),
            (half + close, Fraction(3, 4) + close / 2), (Fraction(2, 3), Fraction(5, 6)),
            (Fraction(1), Fraction(1)),
        ):
            below = (channel, Fraction(0), channel, Fraction(1, 7))
            self.assertEqual(self.adjusted(2, below), (due, Fraction(0), due, Fraction(1)))

    def test_above_an_empty_pixel(self):
        self.assertEqual(self.adjusted(0, EMPTY), (Fraction(1),) * 4)
        self.assertEqual(self.adjusted(1, EMPTY), EMPTY[:3] + (Fraction(1),))
        self.assertEqual(self.adjusted(2, EMPTY), EMPTY[:3] + (Fraction(1),))


if __name__ == "__main__":
    unittest.main()
