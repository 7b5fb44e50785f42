"""Operation 6: set_layer."""

import unittest

from helper import LARGEST, add_adjustment, add_group, add_layer, document_after, last_answer
from helper import look_at, set_layer, single_answers
from layerimages.canvas import answer_call

# A raster layer 1, an isolated group 2, an adjustment layer 3, a pass-through group 4, and a
# pass-through group 5 in the group 2.
START = [add_layer(0), add_group(0, 0), add_adjustment(0, 0), add_group(0, 1), add_group(2, 1)]


class SetLayerTest(unittest.TestCase):
    def test_it_sets_four_things_of_one_layer(self):
        document = document_after(START)
        for number in range(1, 6):
            for clip in (0, 1) if number < 4 else (0,):
                before = look_at(document)
                call = set_layer(number, 11 - number, 100 + number, clip, 1 - number % 2)
                self.assertEqual(answer_call(document, call), [0])
                before["layers"][number].update(
                    mode=11 - number, opacity=100 + number, clip=clip, visible=1 - number % 2
                )
                self.assertEqual(look_at(document), before)

    def test_settings_can_be_taken_back(self):
        document = document_after(START + [set_layer(1, 5, 6, 1, 0), set_layer(1, 0, 255, 0, 1)])
        self.assertEqual(look_at(document), look_at(document_after(START)))

    def test_every_mode_and_the_first_beyond(self):
        for mode in range(12):
            self.assertEqual(last_answer(START + [set_layer(1, mode, 255, 0, 1)]), 0)
        for mode in (12, 13, 255, LARGEST):
            self.assertEqual(last_answer(START + [set_layer(1, mode, 255, 0, 1)]), -3)

    def test_opacities_255_and_256(self):
        for opacity, answer in ((0, 0), (1, 0), (255, 0), (256, -3), (LARGEST, -3)):
            self.assertEqual(last_answer(START + [set_layer(1, 0, opacity, 0, 1)]), answer)

    def test_clip_and_visible_1_and_2(self):
        for value, answer in ((0, 0), (1, 0), (2, -3), (255, -3), (LARGEST, -3)):
            self.assertEqual(last_answer(START + [set_layer(1, 0, 255, value, 1)]), answer)
            self.assertEqual(last_answer(START + [set_layer(1, 0, 255, 0, value)]), answer)

    def test_no_such_layer(self):
        for number in (0, 6, LARGEST):
            self.assertEqual(last_answer(START + [set_layer(number, 0, 255, 0, 1)]), -2)
        self.assertEqual(single_answers([set_layer(1, 0, 255, 0, 1)]), [-2])

    def test_only_pass_through_groups_can_not_be_clipped(self):
        self.assertEqual(
            [last_answer(START + [set_layer(number, 0, 255, 1, 1)]) for number in range(1, 6)],
            [0, 0, 0, -4, -4],
        )
        self.assertEqual(
            [last_answer(START + [set_layer(number, 0, 255, 0, 1)]) for number in range(1, 6)],
            [0, 0, 0, 0, 0],
        )

    def test_a_wrong_layer_comes_before_wrong_settings(self):
        for settings in ((12, 0, 0, 0), (0, 256, 0, 0), (0, 0, 2, 0), (0, 0, 0, 2), (12, 256, 2, 2)):
            self.assertEqual(last_answer(START + [set_layer(6, *settings)]), -2)

    def test_wrong_settings_come_before_clipping_a_pass_through_group(self):
        for settings in ((12, 0, 1, 0), (0, 256, 1, 0), (0, 0, 1, 2), (0, 0, 2, 0), (12, 256, 1, 2)):
            self.assertEqual(last_answer(START + [set_layer(4, *settings)]), -3)


if __name__ == "__main__":
    unittest.main()
