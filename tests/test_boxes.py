"""Operations 4 and 5: paint and set_mask; point 10."""

import unittest

from helper import LARGEST, add_adjustment, add_group, add_layer, document_after, last_answer
from helper import look_at, new_canvas, paint, set_layer, set_mask, single_answers
from layerimages.canvas import answer_call

# On a canvas of 4 by 3: a raster layer 1, a group 2 with a raster layer 3 in it, an adjustment
# layer 4, a pass-through group 5.
WIDTH = 4
HEIGHT = 3
START = [
    new_canvas(WIDTH, HEIGHT), add_layer(0), add_group(0, 0), add_layer(2), add_adjustment(0, 1),
    add_group(0, 1), paint(1, (0, 0, 4, 3), (1, 2, 3, 4)), set_mask(1, (0, 0, 4, 3), 5),
]
WHOLE = (0, 0, WIDTH, HEIGHT)
# Sides and starts around the canvas, and as large as an argument may be.
NUMBERS = (0, 1, 2, 3, 4, 5, LARGEST - 1, LARGEST)
BOXES = [(x, y, w, h) for x in NUMBERS for y in NUMBERS for w in NUMBERS for h in NUMBERS]


def in_box(place, box):
    """Whether a place in a layer's lists lies in the box, straight from the words."""
    x, y, width, height = box
    column = place % WIDTH
    row = place // WIDTH
    return x <= column <= x + width - 1 and y <= row <= y + height - 1


class PaintTest(unittest.TestCase):
    def test_it_answers_0(self):
        for box in (WHOLE, (1, 1, 2, 1), (0, 0, 0, 0), (LARGEST,) * 4):
            self.assertEqual(last_answer(START + [paint(1, box, (0, 128, 255, 255))]), 0)

    def test_exactly_the_pixels_in_the_box_change(self):
        start = document_after(START)
        for box in BOXES:
            start.layers[1].pixels = [(1, 2, 3, 4)] * 12
            before = look_at(start)
            self.assertEqual(answer_call(start, paint(1, box, (250, 251, 252, 253))), [0])
            before["layers"][1]["pixels"] = [
                (250, 251, 252, 253) if in_box(place, box) else (1, 2, 3, 4) for place in range(12)
            ]
            self.assertEqual(look_at(start), before, box)

    def test_a_box_partly_on_the_canvas(self):
        document = document_after([
            new_canvas(3, 2), add_layer(0), paint(1, (2, 1, LARGEST, LARGEST), (9, 8, 7, 6)),
        ])
        empty = (0, 0, 0, 0)
        self.assertEqual(document.layers[1].pixels, [empty] * 5 + [(9, 8, 7, 6)])

    def test_a_layer_in_a_group(self):
        document = document_after(START + [paint(3, (0, 0, 1, 3), (9, 8, 7, 6))])
        painted = (9, 8, 7, 6)
        empty = (0, 0, 0, 0)
        self.assertEqual(document.layers[3].pixels, [painted, empty, empty, empty] * 3)
        self.assertEqual(document.layers[1].pixels, [(1, 2, 3, 4)] * 12)

    def test_the_last_paint_counts(self):
        document = document_after(START + [
            paint(1, WHOLE, (255, 255, 255, 255)), paint(1, (1, 0, 2, 1), (0, 0, 0, 1)),
        ])
        white = (255, 255, 255, 255)
        dark = (0, 0, 0, 1)
        self.assertEqual(document.layers[1].pixels, [white, dark, dark, white] + [white] * 8)

    def test_a_pixel_with_alpha_0_is_black(self):
        document = document_after(START + [paint(1, (0, 0, 1, 1), (200, 100, 50, 0))])
        self.assertEqual(document.layers[1].pixels, [(0, 0, 0, 0)] + [(1, 2, 3, 4)] * 11)

    def test_only_raster_layers_are_painted(self):
        for layer in (0, 2, 4, 5, 6, LARGEST):
            with self.subTest(layer=layer):
                self.assertEqual(last_answer(START + [paint(layer, WHOLE, (0, 0, 0, 0))]), -2)

    def test_bytes_255_and_256(self):
        for place in range(4):
            for value, answer in ((255, 0), (256, -3), (LARGEST, -3)):
                colour = [7, 7, 7, 7]
                colour[place] = value
                with self.subTest(colour=colour):
                    self.assertEqual(last_answer(START + [paint(1, WHOLE, colour)]), answer)

    def test_a_wrong_byte_with_alpha_0_or_a_box_without_pixels(self):
        self.assertEqual(last_answer(START + [paint(1, WHOLE, (256, 0, 0, 0))]), -3)
        self.assertEqual(last_answer(START + [paint(1, (0, 0, 0, 0), (0, 0, 256, 1))]), -3)
        self.assertEqual(last_answer(START + [paint(1, (9, 9, 1, 1), (0, 0, 0, 256))]), -3)

    def test_a_wrong_layer_comes_before_a_wrong_byte(self):
        for layer in (0, 2, 4, 5, 6):
            self.assertEqual(last_answer(START + [paint(layer, WHOLE, (256, 0, 0, 0))]), -2)

    def test_settings_of_the_layer_do_not_matter(self):
        document = document_after(START + [
            set_mask(1, WHOLE, 0), set_layer(1, 3, 0, 1, 0), paint(1, WHOLE, (9, 9, 9, 9)),
        ])
        self.assertEqual(document.layers[1].pixels, [(9, 9, 9, 9)] * 12)
        self.assertEqual(document.layers[1].mask, [0] * 12)


class SetMaskTest(unittest.TestCase):
    def test_it_answers_0_for_layers_of_any_kind(self):
        for layer in range(1, 6):
            for value in (0, 1, 255):
                self.assertEqual(last_answer(START + [set_mask(layer, WHOLE, value)]), 0)

    def test_exactly_the_bytes_in_the_box_change(self):
        document = document_after(START)
        for number, box in enumerate(BOXES):
            layer = number % 5 + 1
            document.layers[layer].mask = [5] * 12
            before = look_at(document)
            self.assertEqual(answer_call(document, set_mask(layer, box, 77)), [0])
            before["layers"][layer]["mask"] = [
                77 if in_box(place, box) else 5 for place in range(12)
            ]
            self.assertEqual(look_at(document), before, box)

    def test_no_such_layer(self):
        for layer in (0, 6, LARGEST):
            with self.subTest(layer=layer):
                self.assertEqual(last_answer(START + [set_mask(layer, WHOLE, 0)]), -2)

    def test_bytes_255_and_256(self):
        for layer in range(1, 6):
            self.assertEqual(
                single_answers(START + [
                    set_mask(layer, WHOLE, 255), set_mask(layer, WHOLE, 256),
                    set_mask(layer, WHOLE, LARGEST), set_mask(layer, (0, 0, 0, 0), 256),
                ])[-4:],
                [0, -3, -3, -3],
            )

    def test_a_wrong_layer_comes_before_a_wrong_byte(self):
        for layer in (0, 6, LARGEST):
            self.assertEqual(last_answer(START + [set_mask(layer, WHOLE, 256)]), -2)


if __name__ == "__main__":
    unittest.main()
