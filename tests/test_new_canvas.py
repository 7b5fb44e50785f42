"""Operation 0: new_canvas."""

import unittest

from helper import LARGEST, add_adjustment, add_group, add_layer, document_after, last_answer
from helper import look_at, new_canvas, paint, set_layer, set_mask, single_answers
from layerimages.canvas import answer_call

WRONG_SIZES = [
    (0, 1), (1, 0), (0, 0), (7, 1), (1, 7), (7, 7), (0, 7),
    (LARGEST, 1), (1, LARGEST), (LARGEST, LARGEST), (6, 7), (7, 6),
]


class NewCanvasTest(unittest.TestCase):
    def test_every_size_from_1_to_6(self):
        for width in range(1, 7):
            for height in range(1, 7):
                with self.subTest(width=width, height=height):
                    self.assertEqual(last_answer([new_canvas(width, height)]), 0)

    def test_sizes_out_of_range(self):
        for width, height in WRONG_SIZES:
            with self.subTest(width=width, height=height):
                self.assertEqual(last_answer([new_canvas(width, height)]), -1)

    def test_the_first_document(self):
        self.assertEqual(
            look_at(document_after([])),
            {"width": 1, "height": 1, "root": [], "next number": 1, "layers": {}},
        )

    def test_it_starts_a_document_of_this_size_without_layers(self):
        calls = [
            new_canvas(2, 2), add_group(0, 0), add_layer(1), add_adjustment(0, 1), new_canvas(3, 6),
        ]
        self.assertEqual(
            look_at(document_after(calls)),
            {"width": 3, "height": 6, "root": [], "next number": 1, "layers": {}},
        )

    def test_the_layers_are_gone_and_numbers_begin_at_1_again(self):
        self.assertEqual(
            single_answers([
                add_group(0, 0), add_layer(1), new_canvas(2, 2),
                add_layer(1), paint(2, (0, 0, 1, 1), (1, 1, 1, 1)), set_mask(1, (0, 0, 1, 1), 1),
                set_layer(2, 0, 0, 0, 0), add_layer(0), add_group(0, 1),
            ]),
            [1, 2, 0, -2, -2, -2, -2, 1, 2],
        )

    def test_there_is_room_for_12_layers_again(self):
        calls = [add_layer(0)] * 12 + [new_canvas(1, 1)] + [add_layer(0)] * 13
        numbers = list(range(1, 13))
        self.assertEqual(single_answers(calls), numbers + [0] + numbers + [-1])

    def test_layers_have_the_size_of_the_new_canvas(self):
        layer = document_after([new_canvas(6, 6), new_canvas(4, 3), add_layer(0)]).layers[1]
        self.assertEqual(len(layer.mask), 12)
        self.assertEqual(len(layer.pixels), 12)

    def test_a_new_canvas_that_fails_changes_nothing(self):
        document = document_after([
            new_canvas(2, 3), add_group(0, 1), add_layer(1), paint(2, (0, 1, 2, 1), (9, 8, 7, 6)),
        ])
        before = look_at(document)
        for width, height in WRONG_SIZES:
            self.assertEqual(answer_call(document, new_canvas(width, height)), [-1])
            self.assertEqual(look_at(document), before)
        self.assertEqual(
            single_answers([add_layer(0), new_canvas(7, 2), add_layer(0), set_mask(1, (0, 0, 1, 1), 0)]),
            [1, -1, 2, 0],
        )


if __name__ == "__main__":
    unittest.main()
