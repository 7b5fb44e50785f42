"""Point 11: failed calls change nothing."""

import unittest

from helper import LARGEST, add_adjustment, add_group, add_layer, document_after, flat
from helper import list_layers, look_at, move, new_canvas, paint, pixel, remove, render
from helper import render_layer, set_layer, set_mask
from layerimages.canvas import answer_call, answers

BOX = (0, 0, 2, 2)
# Groups 1 to 4 of the levels 1 to 4, a raster layer 5 in the group 1, an adjustment layer 6.
START = [
    new_canvas(3, 2), add_group(0, 0), add_group(1, 1), add_group(2, 0), add_group(3, 1),
    add_layer(1), add_adjustment(0, 2), paint(5, BOX, (11, 22, 33, 44)), set_mask(5, BOX, 55),
    set_mask(6, BOX, 66), set_mask(2, BOX, 77), set_layer(5, 3, 88, 1, 0), set_layer(2, 4, 99, 0, 0),
]
FULL = START + [add_layer(0)] * 6
FAILING = [
    (new_canvas(0, 1), -1), (new_canvas(6, 7), -1), (new_canvas(LARGEST, LARGEST), -1),
    (add_layer(4), -1), (add_layer(5), -2), (add_layer(6), -2), (add_layer(99), -2),
    (add_group(4, 0), -1), (add_group(5, 1), -2), (add_group(0, 2), -3), (add_group(5, 2), -3),
    (add_adjustment(4, 0), -1), (add_adjustment(6, 1), -2), (add_adjustment(0, 3), -3),
    (paint(1, BOX, (1, 1, 1, 1)), -2), (paint(6, BOX, (1, 1, 1, 1)), -2),
    (paint(99, BOX, (1, 1, 1, 1)), -2), (paint(5, BOX, (256, 1, 1, 1)), -3),
    (paint(5, BOX, (1, 256, 1, 1)), -3), (paint(5, BOX, (1, 1, 256, 1)), -3),
    (paint(5, BOX, (1, 1, 1, 256)), -3),
    (set_mask(0, BOX, 1), -2), (set_mask(99, BOX, 1), -2), (set_mask(5, BOX, 256), -3),
    (set_layer(0, 1, 1, 1, 1), -2), (set_layer(99, 1, 1, 1, 1), -2),
    (set_layer(5, 12, 1, 0, 1), -3), (set_layer(5, 1, 256, 0, 1), -3),
    (set_layer(5, 1, 1, 2, 1), -3), (set_layer(5, 1, 1, 0, 2), -3), (set_layer(2, 1, 1, 1, 1), -4),
    (move(0, 0, 0), -2), (move(99, 0, 0), -2), (move(6, 5, 0), -2), (move(5, 6, 0), -2),
    (move(5, 99, 0), -2), (move(1, 1, 0), -2), (move(1, 4, 0), -2), (move(2, 3, 9), -2),
    (move(6, 4, 0), -1), (move(5, 4, 9), -1), (move(6, 0, 9), -5), (move(5, 2, 2), -5),
    (move(5, 0, LARGEST), -5), (remove(0), -2), (remove(99), -2), (pixel(3, 0), -1),
    (pixel(0, 2), -1), (pixel(LARGEST, LARGEST), -1), (render_layer(0), -2), (render_layer(6), -2),
    (render_layer(99), -2), (list_layers(5), -2), (list_layers(6), -2), (list_layers(99), -2),
]
FAILING_WHEN_FULL = [(add_layer(0), -1), (add_group(1, 0), -1), (add_adjustment(2, 0), -1)]


class FailedCallsTest(unittest.TestCase):
    def check_failing(self, start, failing):
        document = document_after(start)
        before = look_at(document)
        for call, code in failing:
            with self.subTest(call=call):
                self.assertEqual(answer_call(document, call), [code])
                self.assertEqual(look_at(document), before)

    def test_nothing_changes(self):
        self.check_failing(START, FAILING)

    def test_nothing_changes_with_12_layers(self):
        self.check_failing(FULL, FAILING + FAILING_WHEN_FULL)

    def test_nothing_changes_in_a_new_document(self):
        self.check_failing([], [
            (new_canvas(7, 7), -1), (add_layer(1), -2), (paint(1, BOX, (1, 1, 1, 1)), -2),
            (set_mask(1, BOX, 1), -2), (set_layer(1, 0, 0, 0, 0), -2), (move(1, 0, 0), -2),
            (remove(1), -2), (pixel(1, 0), -1), (pixel(0, 1), -1), (render_layer(1), -2),
            (list_layers(1), -2),
        ])

    def test_a_failed_call_answers_its_code_alone(self):
        for call, code in FAILING:
            with self.subTest(call=call):
                self.assertEqual(answers(flat(START + [call]))[-2:], [1, code])
                told = answers(flat(START + [call]))
                self.assertEqual(len(told), 2 * (len(START) + 1))

    def test_what_is_read_afterwards_is_the_same(self):
        reading = [render(), pixel(2, 1), render_layer(1), list_layers(0), list_layers(1), add_layer(0)]
        without = answers(flat(START + reading))
        for call, code in FAILING:
            with self.subTest(call=call):
                told = answers(flat(START + [call] + reading))
                failed = 2 * len(START)
                self.assertEqual(told[failed:failed + 2], [1, code])
                self.assertEqual(told[:failed] + told[failed + 2:], without)


if __name__ == "__main__":
    unittest.main()
