"""Exact fractions, and bytes (point 9)."""

import math
import unittest
from fractions import Fraction

from helper import add_layer, answer_lists, image_after, new_canvas, paint, render, render_layer
from layerimages import ratios

VALUES = [Fraction(0), Fraction(1)] + [
    Fraction(top, bottom) for bottom in (2, 3, 10, 255, 65025) for top in range(1, bottom, bottom // 2)
]


def pair(value):
    return (value.numerator, value.denominator)


class FractionsTest(unittest.TestCase):
    def test_greatest_divisor(self):
        for one in list(range(40)) + [255, 65025, 3 ** 80, 6 ** 40]:
            for other in list(range(1, 40)) + [255, 65025, 2 ** 90, 6 ** 50]:
                self.assertEqual(ratios.greatest_divisor(one, other), math.gcd(one, other))

    def test_lowest_terms(self):
        self.assertEqual(ratios.ratio(6, 4), (3, 2))
        self.assertEqual(ratios.ratio(0, 7), (0, 1))
        self.assertEqual(ratios.ratio(7, 7), (1, 1))
        self.assertEqual(ratios.ratio(10 ** 40, 2 * 10 ** 41), (1, 20))

    def test_calculating(self):
        for one in VALUES:
            self.assertEqual(ratios.complement(pair(one)), pair(1 - one))
            self.assertEqual(ratios.is_at_most_half(pair(one)), one <= Fraction(1, 2))
            for other in VALUES:
                self.assertEqual(ratios.plus(pair(one), pair(other)), pair(one + other))
                self.assertEqual(ratios.times(pair(one), pair(other)), pair(one * other))
                self.assertEqual(ratios.is_at_most(pair(one), pair(other)), one <= other)
                if other <= one:
                    self.assertEqual(ratios.minus(pair(one), pair(other)), pair(one - other))

    def test_mean(self):
        for one in VALUES:
            for other in VALUES:
                for weights in ((1, 0), (0, 1), (1, 1), (3, 7), (65025, 255)):
                    due = (weights[0] * one + weights[1] * other) / sum(weights)
                    self.assertEqual(ratios.mean(weights, (pair(one), pair(other))), pair(due))
        self.assertEqual(ratios.mean((3, 6, 1), ((1, 2), (1, 3), (0, 1))), (7, 20))


class BytesTest(unittest.TestCase):
    def test_a_byte_stands_for_a_255th_of_it(self):
        for byte in range(256):
            self.assertEqual(ratios.of_byte(byte), pair(Fraction(byte, 255)))

    def test_point_9_for_every_byte(self):
        for byte in range(256):
            self.assertEqual(ratios.as_byte(ratios.of_byte(byte)), byte)

    def test_ties_round_up(self):
        for byte in range(255):
            tie = Fraction(2 * byte + 1, 510)
            close = Fraction(1, 10 ** 30)
            self.assertEqual(ratios.as_byte(pair(tie)), byte + 1)
            self.assertEqual(ratios.as_byte(pair(tie - close)), byte)
            self.assertEqual(ratios.as_byte(pair(tie + close)), byte + 1)

    def test_point_9_by_whole_lists(self):
        # A byte as a colour with alpha 1, then as the alpha of a colour with bytes of its own.
        for first in range(0, 256, 16):
            for as_alpha in (False, True):
                pixels = [
                    (7, 200, 99, byte) if as_alpha else (byte, 255 - byte, byte, 255)
                    for byte in range(first, first + 16)
                ]
                calls = [new_canvas(4, 4), add_layer(0)] + [
                    paint(1, (number % 4, number // 4, 1, 1), colour)
                    for number, colour in enumerate(pixels)
                ]
                due = [colour if colour[3] else (0, 0, 0, 0) for colour in pixels]
                self.assertEqual(image_after(calls), due)
                told = answer_lists(calls + [render(), render_layer(1)])
                self.assertEqual(told[-1], told[-2])


if __name__ == "__main__":
    unittest.main()
