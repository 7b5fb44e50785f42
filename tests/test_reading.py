"""Operations 9 to 12: render, pixel, render_layer, list_layers; point 10 as they show it."""

import unittest

from helper import LARGEST, add_adjustment, add_group, add_layer, answer_lists, document_after
from helper import exact_pixel, list_layers, look_at, move, new_canvas, paint, pixel
from helper import remove, render, render_layer, set_layer, set_mask
from layerimages.canvas import answer_call

# On a canvas of 3 by 2: a raster layer 1, a group 2 with a raster layer 3 in it, an adjustment
# layer 4, a pass-through group 5 with a raster layer 6 in it.
START = [
    new_canvas(3, 2), add_layer(0), add_group(0, 0), add_layer(2), add_adjustment(0, 0),
    add_group(0, 1), add_layer(5), paint(1, (0, 0, 3, 1), (10, 20, 30, 255)),
    paint(3, (1, 0, 1, 2), (40, 50, 60, 70)), paint(6, (2, 1, 1, 1), (80, 90, 100, 110)),
    set_mask(2, (0, 1, 3, 1), 200), set_layer(3, 1, 100, 0, 1), set_layer(5, 9, 77, 0, 1),
]
READING = [
    render(), pixel(0, 0), pixel(2, 1), render_layer(1), render_layer(2), render_layer(5),
    list_layers(0), list_layers(2), list_layers(5),
]


def last_list(calls):
    return answer_lists(calls)[-1]


class RenderTest(unittest.TestCase):
    def test_row_by_row_without_a_count(self):
        calls = [new_canvas(3, 2), add_layer(0)] + [
            paint(1, (x, y, 1, 1), (10 * x, 100 * y, x + y, 255)) for y in range(2) for x in range(3)
        ]
        self.assertEqual(
            last_list(calls + [render()]),
            [0, 0, 0, 255, 10, 0, 1, 255, 20, 0, 2, 255,
             0, 100, 1, 255, 10, 100, 2, 255, 20, 100, 3, 255],
        )

    def test_an_image_without_layers_is_empty(self):
        for width in range(1, 7):
            for height in range(1, 7):
                calls = [new_canvas(width, height), render()]
                self.assertEqual(last_list(calls), [0] * (4 * width * height))
        self.assertEqual(answer_lists([render()]), [[0, 0, 0, 0]])

    def test_ties_round_up(self):
        # An adjustment layer of kind 2 halves a byte up to 127: the half of an odd one is a tie.
        for byte, half in ((1, 1), (2, 1), (3, 2), (126, 63), (127, 64)):
            calls = [
                add_layer(0), paint(1, (0, 0, 1, 1), (byte, 0, byte, 255)), add_adjustment(0, 2),
            ]
            self.assertEqual(last_list(calls + [render()]), [half, 0, half, 255])

    def test_one_half_rounds_up(self):
        # Black with the alpha 34 / 255 and above it white with the alpha 30 / 255 come to 1/2.
        calls = [
            add_layer(0), add_layer(0), paint(1, (0, 0, 1, 1), (0, 0, 0, 34)),
            paint(2, (0, 0, 1, 1), (255, 255, 255, 30)),
        ]
        self.assertEqual(last_list(calls + [pixel(0, 0)]), [1, 2, 1, 2, 1, 2, 4, 17])
        self.assertEqual(last_list(calls + [render()]), [128, 128, 128, 60])


class PixelTest(unittest.TestCase):
    def test_lowest_terms_and_0_1_for_0(self):
        calls = [add_layer(0), paint(1, (0, 0, 1, 1), (0, 51, 255, 34)), pixel(0, 0)]
        self.assertEqual(last_list(calls), [0, 1, 1, 5, 1, 1, 2, 15])
        self.assertEqual(last_list([pixel(0, 0)]), [0, 1] * 4)

    def test_the_column_comes_first(self):
        calls = [new_canvas(3, 2), add_layer(0)] + [
            paint(1, (x, y, 1, 1), (x, y, 0, 255)) for y in range(2) for x in range(3)
        ]
        for x in range(3):
            for y in range(2):
                values = exact_pixel(calls, x, y)
                self.assertEqual([255 * value for value in values], [x, y, 0, 255])

    def test_numbers_of_any_size(self):
        # Each layer multiplies the alpha that is left by 1 - 1 / 255 ** 3.
        calls = [add_layer(0)] * 12
        for layer in range(1, 13):
            calls.append(paint(layer, (0, 0, 1, 1), (255, 255, 255, 1)))
            calls.append(set_layer(layer, 0, 1, 0, 1))
        calls += [set_mask(layer, (0, 0, 1, 1), 1) for layer in (1, 2, 3)]
        self.assertEqual(len(calls), 39)
        left = (255 ** 3 - 1) ** 3 * (255 ** 2 - 1) ** 9
        below = 255 ** 27
        self.assertEqual(last_list(calls + [pixel(0, 0)]), [1, 1] * 3 + [below - left, below])

    def test_a_position_just_on_and_just_off_the_canvas(self):
        for width, height in ((1, 1), (3, 2), (2, 3), (6, 6)):
            for x, y, on in (
                (0, 0, True), (width - 1, height - 1, True), (width - 1, 0, True),
                (0, height - 1, True), (width, 0, False), (0, height, False),
                (width, height, False), (width - 1, height, False), (width, height - 1, False),
                (LARGEST, 0, False), (0, LARGEST, False), (LARGEST, LARGEST, False),
            ):
                with self.subTest(width=width, height=height, x=x, y=y):
                    self.assertEqual(
                        last_list([new_canvas(width, height), pixel(x, y)]),
                        [0, 1] * 4 if on else [-1],
                    )

    def test_it_is_the_pixel_that_render_returns(self):
        told = answer_lists(START + [render()] + [pixel(x, y) for y in range(2) for x in range(3)])
        returned = []
        for numbers in told[-6:]:
            for top, bottom in zip(numbers[::2], numbers[1::2]):
                returned.append((2 * 255 * top + bottom) // (2 * bottom))
        self.assertEqual(returned, told[-7])


class RenderLayerTest(unittest.TestCase):
    def test_a_raster_layer_as_it_is_painted(self):
        self.assertEqual(
            last_list(START + [render_layer(1)]), [10, 20, 30, 255] * 3 + [0, 0, 0, 0] * 3
        )
        self.assertEqual(
            last_list(START + [render_layer(3)]), ([0] * 4 + [40, 50, 60, 70] + [0] * 4) * 2
        )

    def test_a_group_on_empty_pixels(self):
        # Layer 3 has the opacity 100: its alpha is 70 * 100 / 255, and it keeps its colour.
        self.assertEqual(
            last_list(START + [render_layer(2)]), ([0] * 4 + [40, 50, 60, 27] + [0] * 4) * 2
        )

    def test_a_pass_through_group_on_empty_pixels(self):
        self.assertEqual(last_list(START + [render_layer(5)]), [0] * 20 + [80, 90, 100, 110])

    def test_an_adjustment_in_a_group_sees_the_group_alone(self):
        for pass_through in (0, 1):
            calls = [
                new_canvas(2, 1), add_layer(0), paint(1, (0, 0, 2, 1), (1, 2, 3, 255)),
                add_group(0, pass_through), add_layer(2), paint(3, (0, 0, 1, 1), (255, 0, 51, 128)),
                add_adjustment(2, 0), render_layer(2),
            ]
            self.assertEqual(last_list(calls), [0, 255, 204, 128, 0, 0, 0, 0])

    def test_an_empty_group(self):
        for pass_through in (0, 1):
            calls = [new_canvas(2, 1), add_group(0, pass_through), render_layer(1)]
            self.assertEqual(last_list(calls), [0] * 8)

    def test_its_own_settings_and_what_is_clipped_to_it_have_no_effect(self):
        for layer in (1, 2, 3, 5, 6):
            parent = {3: 2, 6: 5}.get(layer, 0)
            due = last_list(START + [render_layer(layer)])
            for clip in (0, 1) if layer != 5 else (0,):
                calls = START + [
                    add_layer(parent), move(7, parent, 0), move(layer, parent, 1),
                    set_layer(layer, 6, 3, clip, 0), set_mask(layer, (0, 0, 2, 2), 9),
                    add_layer(parent), move(8, parent, 2), set_layer(8, 1, 255, 1, 1),
                    paint(8, (0, 0, 3, 2), (255, 0, 0, 255)), render_layer(layer),
                ]
                with self.subTest(layer=layer, clip=clip):
                    self.assertEqual(last_list(calls), due)

    def test_no_such_layer_or_an_adjustment_layer(self):
        for layer in (0, 4, 7, LARGEST):
            self.assertEqual(last_list(START + [render_layer(layer)]), [-2])


class ListLayersTest(unittest.TestCase):
    def test_five_numbers_for_each_layer(self):
        self.assertEqual(
            last_list(START + [set_layer(4, 11, 0, 1, 0), list_layers(0)]),
            [4, 1, 0, 255, 0, 1, 2, 0, 255, 0, 1, 4, 11, 0, 1, 0, 5, 9, 77, 0, 1],
        )
        self.assertEqual(last_list(START + [list_layers(2)]), [1, 3, 1, 100, 0, 1])
        self.assertEqual(last_list(START + [list_layers(5)]), [1, 6, 0, 255, 0, 1])

    def test_from_the_lowest_to_the_highest(self):
        calls = [add_layer(0), add_group(0, 0), add_adjustment(0, 1), move(3, 0, 0), list_layers(0)]
        self.assertEqual(last_list(calls)[1::5], [3, 1, 2])

    def test_no_layers(self):
        self.assertEqual(last_list([list_layers(0)]), [0])
        self.assertEqual(last_list([add_group(0, 1), list_layers(1)]), [0])
        self.assertEqual(last_list([add_layer(0), remove(1), list_layers(0)]), [0])

    def test_the_lowest_layer_keeps_its_clip(self):
        calls = [add_layer(0), set_layer(1, 0, 255, 1, 1), list_layers(0)]
        self.assertEqual(last_list(calls), [1, 1, 0, 255, 1, 1])

    def test_neither_the_root_nor_a_group(self):
        for parent in (1, 3, 4, 6, 7, LARGEST):
            self.assertEqual(last_list(START + [list_layers(parent)]), [-2])


class NothingChangesTest(unittest.TestCase):
    def test_reading_changes_nothing(self):
        document = document_after(START)
        before = look_at(document)
        for call in READING + [pixel(3, 0), pixel(0, 2), render_layer(4), list_layers(1)]:
            with self.subTest(call=call):
                first = answer_call(document, call)
                self.assertEqual(look_at(document), before)
                self.assertEqual(answer_call(document, call), first)

    def test_what_is_answered_is_not_what_the_document_keeps(self):
        document = document_after(START)
        before = look_at(document)
        for call in READING:
            answer_call(document, call).clear()
        self.assertEqual(look_at(document), before)

    def test_point_10_as_render_layer_shows_it(self):
        start = last_list(START + [render_layer(1)])
        for x, y, width, height in ((0, 0, 1, 1), (1, 0, 2, 2), (2, 1, 9, 9), (3, 0, 1, 1), (0, 0, 3, 0)):
            calls = START + [paint(1, (x, y, width, height), (1, 2, 3, 4))]
            due = list(start)
            for row in range(y, min(y + height, 2)):
                for column in range(x, min(x + width, 3)):
                    place = 4 * (3 * row + column)
                    due[place:place + 4] = [1, 2, 3, 4]
            self.assertEqual(last_list(calls + [render_layer(1)]), due)
            self.assertEqual(
                last_list(calls + [render_layer(3)]), last_list(START + [render_layer(3)])
            )


if __name__ == "__main__":
    unittest.main()
