"""How layers are laid onto each other: weights, groups, adjustment layers, clipping."""

import unittest
from fractions import Fraction

from helper import add_adjustment, add_group, add_layer, exact_pixel, move, new_canvas, paint
from helper import set_layer, set_mask
from test_modes import due

DOT = (0, 0, 1, 1)
RED = (255, 0, 0, 255)
GREEN = (0, 255, 0, 255)
EMPTY = [0, 0, 0, 0]


def dot(colour, parent=0):
    """Calls that add a raster layer of one colour; it has the number that is next."""
    return lambda number: [add_layer(parent), paint(number, DOT, colour)]


def layers(*makers):
    """The calls that make layers 1, 2, .. in a new document of one pixel."""
    calls = []
    for number, maker in enumerate(makers, start=1):
        calls += maker(number)
    return calls


def group(pass_through, parent=0):
    return lambda number: [add_group(parent, pass_through)]


def adjustment(kind, parent=0):
    return lambda number: [add_adjustment(parent, kind)]


def set_to(layer, mode=0, opacity=255, clip=0, visible=1):
    return set_layer(layer, mode, opacity, clip, visible)


def fractions(*bytes_told):
    return [Fraction(byte, 255) for byte in bytes_told]


def adjusted_by_words(kind, colour):
    if kind == 0:
        return [1 - c for c in colour]
    if kind == 1:
        return [(3 * colour[0] + 6 * colour[1] + colour[2]) / 10] * 3
    return [c / 2 if c <= Fraction(1, 2) else 1 - (1 - c) / 2 for c in colour]


class WeightTest(unittest.TestCase):
    def test_opacity_times_mask_at_the_position(self):
        calls = [
            new_canvas(2, 1), add_layer(0), paint(1, (0, 0, 2, 1), (51, 102, 0, 85)),
            set_to(1, opacity=102), set_mask(1, (1, 0, 1, 1), 51),
        ]
        colour = [Fraction(1, 5), Fraction(2, 5), 0]
        self.assertEqual(exact_pixel(calls, 0, 0), colour + [Fraction(2, 15)])
        self.assertEqual(exact_pixel(calls, 1, 0), colour + [Fraction(2, 75)])

    def test_an_opacity_or_a_mask_of_0(self):
        for hide in ([set_to(2, opacity=0)], [set_mask(2, DOT, 0)]):
            for mode in range(12):
                calls = layers(dot((9, 8, 7, 100)), dot(RED)) + [set_to(2, mode)] + hide
                self.assertEqual(exact_pixel(calls), fractions(9, 8, 7, 100))
            self.assertEqual(exact_pixel(layers(dot(EMPTY), dot(RED)) + hide), EMPTY)


class RasterTest(unittest.TestCase):
    def test_from_the_lowest_to_the_highest(self):
        self.assertEqual(exact_pixel(layers(dot(RED), dot(GREEN))), [0, 1, 0, 1])
        self.assertEqual(exact_pixel(layers(dot(GREEN), dot(RED))), [1, 0, 0, 1])

    def test_the_mode_and_the_weight_are_those_of_the_upper_layer(self):
        calls = layers(dot((255, 51, 0, 255)), dot((51, 51, 51, 255)))
        calls += [set_to(1, 7, 255), set_to(2, 1, 102)]
        self.assertEqual(
            exact_pixel(calls), [Fraction(17, 25), Fraction(17, 125), 0, 1]
        )

    def test_a_layer_that_is_not_visible_is_skipped(self):
        for maker in (dot(RED), adjustment(0)):
            calls = layers(dot((9, 8, 7, 100)), maker) + [set_to(2, visible=0)]
            self.assertEqual(exact_pixel(calls), fractions(9, 8, 7, 100))
        for pass_through in (0, 1):
            calls = layers(dot((9, 8, 7, 100)), group(pass_through), dot(RED, 2))
            self.assertEqual(exact_pixel(calls), [1, 0, 0, 1])
            self.assertEqual(exact_pixel(calls + [set_to(2, visible=0)]), fractions(9, 8, 7, 100))
            self.assertEqual(exact_pixel(calls + [set_to(3, visible=0)]), fractions(9, 8, 7, 100))


class GroupTest(unittest.TestCase):
    def test_an_isolated_group_begins_with_an_empty_pixel(self):
        # Multiplying happens within the group, where there is nothing below.
        calls = layers(dot((0, 0, 255, 255)), group(0), dot(RED, 2)) + [set_to(3, 1)]
        self.assertEqual(exact_pixel(calls), [1, 0, 0, 1])

    def test_a_pass_through_group_begins_with_what_is_below_it(self):
        calls = layers(dot((0, 0, 255, 255)), group(1), dot(RED, 2)) + [set_to(3, 1)]
        self.assertEqual(exact_pixel(calls), [0, 0, 0, 1])

    def test_the_mode_and_the_weight_of_an_isolated_group(self):
        calls = layers(dot((102, 255, 0, 255)), group(0), dot((51, 51, 51, 255), 2))
        calls += [set_to(2, 1, 51), set_mask(2, DOT, 102)]
        # The weight is 2/25; the blended colour is (2/25, 1/5, 0).
        self.assertEqual(
            exact_pixel(calls), [Fraction(234, 625), Fraction(117, 125), 0, 1]
        )

    def test_the_mode_of_a_pass_through_group_has_no_effect(self):
        for mode in range(12):
            calls = layers(dot((102, 255, 0, 128)), group(1), dot((51, 51, 51, 99), 2))
            calls += [set_to(2, mode, 200)]
            self.assertEqual(exact_pixel(calls), exact_pixel(calls + [set_to(2, 0, 200)]))

    def test_a_pass_through_group_is_mixed_by_its_weight(self):
        # alpha(Q) is 1/5, alpha(R) is 1, and the weight is 1/5.
        calls = layers(dot((255, 0, 0, 51)), group(1), dot(GREEN, 2)) + [set_to(2, 0, 51)]
        self.assertEqual(
            exact_pixel(calls), [Fraction(4, 9), Fraction(5, 9), 0, Fraction(9, 25)]
        )

    def test_a_pass_through_group_with_nothing_below_and_nothing_in_it(self):
        self.assertEqual(exact_pixel(layers(group(1))), EMPTY)
        self.assertEqual(exact_pixel(layers(group(1), dot(RED, 1)) + [set_to(1, 0, 0)]), EMPTY)
        self.assertEqual(exact_pixel(layers(group(1), dot(RED, 1))), [1, 0, 0, 1])
        self.assertEqual(exact_pixel(layers(dot(RED), group(1))), [1, 0, 0, 1])

    def test_pass_through_groups_in_each_other(self):
        # The adjustment layer in both sees the red below them: weights 1/5 and 2/5.
        calls = layers(dot(RED), group(1), group(1, 2), adjustment(0, 3))
        self.assertEqual(exact_pixel(calls), [0, 1, 1, 1])
        calls += [set_to(2, 0, 51), set_to(3, 0, 102)]
        self.assertEqual(
            exact_pixel(calls), [Fraction(23, 25), Fraction(2, 25), Fraction(2, 25), 1]
        )

    def test_a_pass_through_group_in_an_isolated_group_sees_that_alone(self):
        calls = layers(dot(RED), group(0), group(1, 2), adjustment(0, 3))
        self.assertEqual(exact_pixel(calls), [1, 0, 0, 1])
        calls += [add_layer(2), paint(5, DOT, (0, 0, 255, 255)), move(5, 2, 0)]
        self.assertEqual(exact_pixel(calls), [1, 1, 0, 1])


class AdjustmentTest(unittest.TestCase):
    COLOUR = (51, 153, 0)

    def test_each_kind_in_each_mode_on_a_pixel(self):
        below = fractions(*self.COLOUR)
        weight = Fraction(2, 5)
        for kind in range(3):
            upper = adjusted_by_words(kind, below)
            for mode in range(12):
                for alpha in (1, 128, 255):
                    calls = layers(dot((*self.COLOUR, alpha)), adjustment(kind))
                    colour = [
                        (1 - weight) * b + weight * due(mode, b, s) for b, s in zip(below, upper)
                    ]
                    with self.subTest(kind=kind, mode=mode, alpha=alpha):
                        self.assertEqual(
                            exact_pixel(calls + [set_to(2, mode, 102)]),
                            colour + fractions(alpha),
                        )

    def test_each_kind_in_each_mode_clipped(self):
        # Clipped, it sees the own pixel of its base, not what lies below that.
        own = fractions(*self.COLOUR)
        weight = Fraction(2, 5)
        for kind in range(3):
            upper = adjusted_by_words(kind, own)
            for mode in range(12):
                calls = layers(dot((255, 255, 255, 255)), dot((*self.COLOUR, 51)), adjustment(kind))
                calls += [set_to(3, mode, 102, clip=1)]
                laid = [(1 - weight) * b + weight * due(mode, b, s) for b, s in zip(own, upper)]
                colour = [Fraction(4, 5) + Fraction(1, 5) * channel for channel in laid]
                with self.subTest(kind=kind, mode=mode):
                    self.assertEqual(exact_pixel(calls), colour + [1])

    def test_on_an_empty_pixel(self):
        for kind in range(3):
            for mode in range(12):
                calls = layers(adjustment(kind)) + [set_to(1, mode)]
                self.assertEqual(exact_pixel(calls), EMPTY)
                calls = layers(dot(EMPTY), adjustment(kind)) + [set_to(2, mode, clip=1)]
                self.assertEqual(exact_pixel(calls), EMPTY)
                calls = layers(dot(GREEN), dot(EMPTY), adjustment(kind)) + [set_to(3, mode, clip=1)]
                self.assertEqual(exact_pixel(calls), [0, 1, 0, 1])

    def test_kind_2_at_one_half(self):
        # Black with the alpha 34 / 255 and above it white with the alpha 30 / 255 come to 1/2.
        calls = layers(dot((0, 0, 0, 34)), dot((255, 255, 255, 30)))
        self.assertEqual(exact_pixel(calls), [Fraction(1, 2)] * 3 + [Fraction(4, 17)])
        calls += [add_adjustment(0, 2)]
        self.assertEqual(exact_pixel(calls), [Fraction(1, 4)] * 3 + [Fraction(4, 17)])

    def test_it_sees_all_that_lies_below_it(self):
        calls = layers(dot(RED), dot((0, 0, 255, 51)), adjustment(0), dot((0, 0, 0, 0)))
        self.assertEqual(exact_pixel(calls), [Fraction(1, 5), 1, Fraction(4, 5), 1])

    def test_its_weight_at_the_position(self):
        calls = [
            new_canvas(2, 1), add_layer(0), paint(1, (0, 0, 2, 1), RED), add_adjustment(0, 0),
            set_to(2, 0, 51), set_mask(2, (1, 0, 1, 1), 102),
        ]
        self.assertEqual(exact_pixel(calls, 0), [Fraction(4, 5)] + [Fraction(1, 5)] * 2 + [1])
        self.assertEqual(exact_pixel(calls, 1), [Fraction(23, 25)] + [Fraction(2, 25)] * 2 + [1])


class ClippingTest(unittest.TestCase):
    def test_a_clipped_layer_keeps_the_alpha_of_its_base(self):
        calls = layers(dot((255, 0, 0, 51)), dot(GREEN))
        self.assertEqual(exact_pixel(calls + [set_to(2, clip=1)]), [0, 1, 0, Fraction(1, 5)])
        self.assertEqual(
            exact_pixel(calls + [set_to(2, 0, 51, clip=1)]),
            [Fraction(4, 5), Fraction(1, 5), 0, Fraction(1, 5)],
        )

    def test_the_mode_and_weight_of_both(self):
        # Base: mode 1, weight 1/5. Clipped to it: mode 2, weight 2/5.
        calls = layers(dot((102, 204, 255, 255)), dot((51, 102, 0, 255)), dot((153, 0, 255, 255)))
        calls += [set_to(2, 1, 51), set_to(3, 2, 102, clip=1)]
        own = [
            Fraction(3, 5) * b + Fraction(2, 5) * due(2, b, s)
            for b, s in zip(fractions(51, 102, 0), fractions(153, 0, 255))
        ]
        colour = [
            Fraction(4, 5) * b + Fraction(1, 5) * b * s for b, s in zip(fractions(102, 204, 255), own)
        ]
        self.assertEqual(exact_pixel(calls), colour + [1])

    def test_a_clipped_layer_with_alpha(self):
        calls = layers(dot(RED), dot((0, 255, 0, 51))) + [set_to(2, 0, 102, clip=1)]
        self.assertEqual(exact_pixel(calls), [Fraction(23, 25), Fraction(2, 25), 0, 1])

    def test_an_empty_base_hides_what_is_clipped_to_it(self):
        self.assertEqual(exact_pixel(layers(dot(EMPTY), dot(RED)) + [set_to(2, clip=1)]), EMPTY)
        calls = layers(dot(GREEN), dot(EMPTY), dot(RED)) + [set_to(3, clip=1)]
        self.assertEqual(exact_pixel(calls), [0, 1, 0, 1])

    def test_several_layers_clipped_to_one_from_the_lowest_on(self):
        calls = layers(dot((255, 0, 0, 51)), dot(GREEN), adjustment(0), dot((0, 0, 0, 51)))
        calls += [set_to(number, clip=1) for number in (2, 3, 4)]
        self.assertEqual(exact_pixel(calls), [Fraction(4, 5), 0, Fraction(4, 5), Fraction(1, 5)])

    def test_the_nearest_layer_that_is_not_clipped_is_the_base(self):
        calls = layers(dot(RED), dot((0, 255, 0, 51)), dot((0, 0, 255, 255)))
        calls += [set_to(3, clip=1)]
        self.assertEqual(exact_pixel(calls), [Fraction(4, 5), 0, Fraction(1, 5), 1])

    def test_the_lowest_layer_counts_as_not_clipped(self):
        clipped = [set_to(1, clip=1), set_to(2, clip=1)]
        raster = layers(dot((255, 0, 0, 51)), dot(GREEN))
        self.assertEqual(exact_pixel(raster + clipped), [0, 1, 0, Fraction(1, 5)])
        isolated = layers(group(0), dot(GREEN), dot((255, 0, 0, 51), 1))
        self.assertEqual(exact_pixel(isolated + clipped), [0, 1, 0, Fraction(1, 5)])

    def test_the_lowest_layer_of_a_group_counts_as_not_clipped(self):
        for pass_through in (0, 1):
            calls = layers(dot((0, 0, 255, 51)), group(pass_through), dot((255, 0, 0, 255), 2))
            calls += [set_to(3, clip=1)]
            self.assertEqual(exact_pixel(calls), [1, 0, 0, 1])

    def test_a_layer_becomes_clipped_when_it_is_no_longer_the_lowest(self):
        calls = layers(dot(GREEN), dot((255, 0, 0, 51))) + [set_to(1, clip=1)]
        self.assertEqual(exact_pixel(calls), [Fraction(1, 5), Fraction(4, 5), 0, 1])
        self.assertEqual(exact_pixel(calls + [move(1, 0, 1)]), [0, 1, 0, Fraction(1, 5)])

    def test_an_isolated_group_as_a_base(self):
        calls = layers(group(0), dot((255, 0, 0, 51), 1), dot(GREEN)) + [set_to(3, clip=1)]
        self.assertEqual(exact_pixel(calls), [0, 1, 0, Fraction(1, 5)])

    def test_an_isolated_group_that_is_clipped(self):
        # Its own pixel begins with an empty one; its mode and weight are used on the base.
        calls = layers(dot((51, 255, 0, 51)), group(0), dot((102, 51, 0, 255), 2))
        calls += [set_to(2, 1, 102, clip=1), set_to(3, 2)]
        self.assertEqual(
            exact_pixel(calls), [Fraction(19, 125), Fraction(17, 25), 0, Fraction(1, 5)]
        )

    def test_clipping_does_not_reach_out_of_a_group(self):
        for pass_through in (0, 1):
            calls = layers(dot((0, 0, 255, 51)), group(pass_through), dot(RED, 2), dot(GREEN, 2))
            calls += [set_to(3, clip=1), set_to(4, clip=1)]
            self.assertEqual(exact_pixel(calls), [0, 1, 0, 1])


class WithoutBaseTest(unittest.TestCase):
    def test_above_an_adjustment_layer(self):
        # It is treated like a layer that is not clipped: its alpha counts.
        calls = layers(dot((255, 0, 0, 51)), adjustment(0), dot(GREEN)) + [set_to(3, clip=1)]
        self.assertEqual(exact_pixel(calls), [0, 1, 0, 1])

    def test_above_a_pass_through_group(self):
        calls = layers(dot((255, 0, 0, 51)), group(1), dot(GREEN)) + [set_to(3, clip=1)]
        self.assertEqual(exact_pixel(calls), [0, 1, 0, 1])

    def test_it_is_not_the_base_of_others(self):
        # The layers 3 and 4 are clipped, and neither has a base: both are laid over.
        for maker in (adjustment(0), group(1)):
            calls = layers(dot((255, 0, 0, 51)), maker, dot((0, 255, 0, 51)), dot((0, 0, 255, 255)))
            calls += [set_to(2, 0, 0), set_to(3, clip=1), set_to(4, clip=1)]
            self.assertEqual(exact_pixel(calls), [0, 0, 1, 1])

    def test_it_does_not_hide_others_when_it_is_not_visible(self):
        for maker in (adjustment(0), group(1)):
            calls = layers(dot((255, 0, 0, 51)), maker, dot(RED), dot(GREEN))
            calls += [set_to(3, clip=1, visible=0), set_to(4, clip=1)]
            self.assertEqual(exact_pixel(calls), [0, 1, 0, 1])

    def test_an_adjustment_layer_that_is_not_visible_is_no_base_either(self):
        for maker in (adjustment(0), group(1)):
            calls = layers(dot((255, 0, 0, 51)), maker, dot(GREEN))
            calls += [set_to(2, visible=0), set_to(3, clip=1)]
            self.assertEqual(exact_pixel(calls), [0, 1, 0, 1])

    def test_a_lowest_adjustment_layer_with_clip_is_no_base(self):
        calls = layers(adjustment(0), dot(GREEN)) + [set_to(1, clip=1), set_to(2, clip=1)]
        self.assertEqual(exact_pixel(calls), [0, 1, 0, 1])

    def test_a_clipped_adjustment_layer_is_no_obstacle(self):
        # The layer 3 has the layer 1 as its base: the adjustment layer between them is clipped.
        calls = layers(dot((255, 0, 0, 51)), adjustment(0), dot(GREEN))
        calls += [set_to(2, clip=1), set_to(3, clip=1)]
        self.assertEqual(exact_pixel(calls), [0, 1, 0, Fraction(1, 5)])

    def test_an_adjustment_layer_without_a_base_sees_what_is_below(self):
        calls = layers(dot((255, 0, 0, 51)), adjustment(0), adjustment(0))
        calls += [set_to(3, clip=1)]
        self.assertEqual(exact_pixel(calls), [1, 0, 0, Fraction(1, 5)])


class HiddenClippingTest(unittest.TestCase):
    def test_a_hidden_base_hides_what_is_clipped_to_it(self):
        for maker in (dot(RED), group(0)):
            calls = layers(dot((9, 8, 7, 255)), maker, dot(GREEN), adjustment(0))
            calls += [set_to(2, visible=0), set_to(3, clip=1), set_to(4, clip=1)]
            self.assertEqual(exact_pixel(calls), fractions(9, 8, 7, 255))

    def test_a_hidden_lowest_layer_still_is_the_base(self):
        calls = layers(dot(RED), dot(GREEN)) + [set_to(1, visible=0), set_to(2, clip=1)]
        self.assertEqual(exact_pixel(calls), EMPTY)

    def test_a_hidden_clipped_layer_is_skipped_alone(self):
        calls = layers(dot(RED), dot(GREEN), adjustment(0))
        calls += [set_to(2, clip=1, visible=0), set_to(3, clip=1)]
        self.assertEqual(exact_pixel(calls), [0, 1, 1, 1])

    def test_the_next_layer_that_is_not_clipped_is_not_hidden(self):
        calls = layers(dot(RED), dot(GREEN), dot((0, 0, 255, 255)))
        calls += [set_to(1, visible=0), set_to(2, clip=1)]
        self.assertEqual(exact_pixel(calls), [0, 0, 1, 1])


if __name__ == "__main__":
    unittest.main()
