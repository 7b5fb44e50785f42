"""The blend modes; point 5, and point 2 for single channels."""

import unittest
from fractions import Fraction

from helper import add_layer, exact_pixel, paint, set_layer
from layerimages.modes import blend

HALF = Fraction(1, 2)
CHANNELS = [
    Fraction(0), Fraction(1, 255), Fraction(1, 4), Fraction(1, 3), Fraction(127, 255), HALF,
    Fraction(128, 255), Fraction(3, 5), Fraction(3, 4), Fraction(254, 255), Fraction(1),
]
# For each mode: the lower channel, the upper one and the result, each in 12ths.
EDGES = {
    0: [(0, 0, 0), (0, 12, 12), (12, 0, 0), (12, 12, 12), (4, 6, 6), (0, 6, 6), (12, 6, 6)],
    1: [(0, 0, 0), (0, 12, 0), (12, 0, 0), (12, 12, 12), (4, 6, 2), (0, 6, 0), (12, 6, 6)],
    2: [(0, 0, 0), (0, 12, 12), (12, 0, 12), (12, 12, 12), (4, 6, 8), (0, 6, 6), (12, 6, 12)],
    3: [(0, 0, 0), (0, 12, 0), (12, 0, 12), (12, 12, 12), (0, 6, 0), (12, 6, 12),
        (6, 0, 0), (6, 12, 12), (6, 6, 6), (4, 6, 4), (4, 9, 6), (9, 4, 8)],
    4: [(0, 0, 0), (0, 12, 12), (12, 0, 0), (12, 12, 12), (0, 6, 0), (12, 6, 12),
        (6, 0, 0), (6, 12, 12), (6, 6, 6), (4, 6, 4), (9, 4, 6), (4, 9, 8)],
    5: [(0, 0, 0), (0, 12, 0), (12, 0, 0), (12, 12, 12), (4, 6, 4), (9, 6, 6), (6, 6, 6)],
    6: [(0, 0, 0), (0, 12, 12), (12, 0, 12), (12, 12, 12), (4, 6, 6), (9, 6, 9), (6, 6, 6)],
    7: [(0, 0, 0), (0, 12, 12), (12, 0, 12), (12, 12, 0), (4, 6, 2), (9, 6, 3), (6, 6, 0)],
    8: [(0, 0, 0), (0, 12, 12), (12, 0, 12), (12, 12, 12), (4, 6, 10), (6, 6, 12), (9, 6, 12)],
    9: [(0, 0, 0), (0, 12, 0), (12, 0, 12), (12, 12, 0), (4, 6, 0), (6, 6, 0), (9, 6, 3)],
    10: [(0, 0, 0), (0, 12, 0), (12, 0, 12), (12, 12, 12), (1, 12, 12), (0, 6, 0), (12, 6, 12),
         (4, 6, 8), (6, 6, 12), (7, 6, 12), (3, 8, 9), (5, 0, 5)],
    11: [(0, 0, 0), (0, 12, 0), (12, 0, 12), (12, 12, 12), (11, 0, 0), (0, 6, 0), (12, 6, 12),
         (8, 6, 4), (6, 6, 0), (5, 6, 0), (9, 4, 3), (5, 12, 5)],
}


def due(mode, b, s):
    """The result of a mode, straight from the words."""
    if mode == 3:
        return due(4, s, b)
    if mode == 4:
        return 2 * s * b if s <= HALF else 1 - 2 * (1 - s) * (1 - b)
    if mode == 10:
        return 0 if b == 0 else 1 if s == 1 else min(b / (1 - s), 1)
    if mode == 11:
        return 1 if b == 1 else 0 if s == 0 else max(1 - (1 - b) / s, 0)
    return {
        0: s, 1: b * s, 2: 1 - (1 - b) * (1 - s), 5: min(b, s), 6: max(b, s), 7: abs(b - s),
        8: min(b + s, 1), 9: max(b - s, 0),
    }[mode]


def blended(mode, b, s):
    top, bottom = blend(mode, (b.numerator, b.denominator), (s.numerator, s.denominator))
    result = Fraction(top, bottom)
    assert (top, bottom) == (result.numerator, result.denominator), (top, bottom)
    return result


class ModesTest(unittest.TestCase):
    def test_the_edges_of_each_mode(self):
        self.assertEqual(sorted(EDGES), list(range(12)))
        for mode, cases in EDGES.items():
            for b, s, result in cases:
                with self.subTest(mode=mode, b=b, s=s):
                    self.assertEqual(
                        blended(mode, Fraction(b, 12), Fraction(s, 12)), Fraction(result, 12)
                    )

    def test_every_mode_by_the_words(self):
        for mode in range(12):
            for b in CHANNELS:
                for s in CHANNELS:
                    with self.subTest(mode=mode, b=b, s=s):
                        self.assertEqual(blended(mode, b, s), due(mode, b, s))

    def test_point_2_a_result_is_from_0_to_1(self):
        for mode in range(12):
            for b in CHANNELS:
                for s in CHANNELS:
                    self.assertTrue(0 <= blended(mode, b, s) <= 1, (mode, b, s))

    def test_point_5_complements(self):
        for mode, other in ((1, 2), (2, 1), (5, 6), (6, 5), (10, 11), (11, 10), (4, 4)):
            for b in CHANNELS:
                for s in CHANNELS:
                    with self.subTest(mode=mode, b=b, s=s):
                        self.assertEqual(1 - blended(mode, 1 - b, 1 - s), blended(other, b, s))

    def test_each_channel_apart_and_the_lower_one_first(self):
        lower = (0, 128, 255)
        upper = (77, 255, 51)
        for mode in range(12):
            calls = [
                add_layer(0), add_layer(0), set_layer(2, mode, 255, 0, 1),
                paint(1, (0, 0, 1, 1), (*lower, 255)), paint(2, (0, 0, 1, 1), (*upper, 255)),
            ]
            colour = [
                due(mode, Fraction(b, 255), Fraction(s, 255)) for b, s in zip(lower, upper)
            ]
            with self.subTest(mode=mode):
                self.assertEqual(exact_pixel(calls), colour + [1])


if __name__ == "__main__":
    unittest.main()
