"""Operations 1 to 3: add_layer, add_group, add_adjustment."""

import unittest

from helper import LARGEST, add_adjustment, add_group, add_layer, document_after, last_answer
from helper import look_at_layer, new_canvas, set_layer, single_answers

# A raster layer 1, a group 2, an adjustment layer 3 and a pass-through group 4.
ONE_OF_EACH = [add_layer(0), add_group(0, 0), add_adjustment(0, 0), add_group(0, 1)]
# Groups 1 to 4 of the levels 1 to 4, each in the one before.
FOUR_LEVELS = [add_group(0, 0), add_group(1, 1), add_group(2, 0), add_group(3, 1)]
NEW_LAYER = {"mode": 0, "opacity": 255, "clip": 0, "visible": 1}


def ways_to_add(parent):
    return [add_layer(parent), add_group(parent, 0), add_group(parent, 1)] + [
        add_adjustment(parent, kind) for kind in range(3)
    ]


class NewLayersTest(unittest.TestCase):
    def test_a_new_raster_layer(self):
        document = document_after([new_canvas(3, 2), add_layer(0)])
        self.assertEqual(
            look_at_layer(document.layers[1]),
            dict(NEW_LAYER, parent=0, mask=[255] * 6, pixels=[(0, 0, 0, 0)] * 6),
        )

    def test_new_groups(self):
        document = document_after([new_canvas(2, 2), add_group(0, 0), add_group(1, 1)])
        self.assertEqual(
            look_at_layer(document.layers[1]),
            dict(NEW_LAYER, parent=0, mask=[255] * 4, pass_through=0, members=[2]),
        )
        self.assertEqual(
            look_at_layer(document.layers[2]),
            dict(NEW_LAYER, parent=1, mask=[255] * 4, pass_through=1, members=[]),
        )

    def test_new_adjustment_layers(self):
        for kind in range(3):
            with self.subTest(kind=kind):
                document = document_after([new_canvas(1, 5), add_adjustment(0, kind)])
                self.assertEqual(
                    look_at_layer(document.layers[1]),
                    dict(NEW_LAYER, parent=0, mask=[255] * 5, kind=kind),
                )

    def test_a_new_layer_is_the_highest_of_its_group(self):
        document = document_after([
            add_group(0, 0), add_layer(1), add_layer(0), add_group(1, 1), add_adjustment(4, 1),
            add_adjustment(1, 2), add_layer(4), add_group(0, 0),
        ])
        self.assertEqual(document.root, [1, 3, 8])
        self.assertEqual(document.layers[1].members, [2, 4, 6])
        self.assertEqual(document.layers[4].members, [5, 7])

    def test_two_layers_do_not_share_what_they_keep(self):
        document = document_after([
            add_layer(0), add_layer(0), add_group(0, 0), add_group(0, 0), add_layer(3),
            [4, 1, 0, 0, 1, 1, 9, 9, 9, 9], [5, 1, 0, 0, 1, 1, 4],
        ])
        self.assertEqual(document.layers[2].pixels, [(0, 0, 0, 0)])
        self.assertEqual(document.layers[2].mask, [255])
        self.assertEqual(document.layers[4].members, [])


class NumbersTest(unittest.TestCase):
    def test_numbers_go_on_in_order(self):
        self.assertEqual(single_answers(ONE_OF_EACH), [1, 2, 3, 4])

    def test_a_failed_call_uses_no_number_up(self):
        self.assertEqual(
            single_answers([
                add_layer(1), add_layer(0), add_group(0, 2), add_group(1, 0), add_group(0, 1),
                add_adjustment(0, 3), add_adjustment(9, 0), set_layer(2, 0, 0, 1, 0),
                new_canvas(0, 0), add_adjustment(2, 2),
            ]),
            [-2, 1, -3, -2, 2, -3, -2, -4, -1, 3],
        )


class ParentTest(unittest.TestCase):
    def test_the_root_and_both_kinds_of_groups_take_layers(self):
        for parent in (0, 2, 4):
            for call in ways_to_add(parent):
                with self.subTest(call=call):
                    self.assertEqual(last_answer(ONE_OF_EACH + [call]), 5)

    def test_other_layers_and_missing_ones_take_none(self):
        for parent in (1, 3, 5, 6, LARGEST):
            for call in ways_to_add(parent):
                with self.subTest(call=call):
                    self.assertEqual(last_answer(ONE_OF_EACH + [call]), -2)


class RoomTest(unittest.TestCase):
    def test_the_12th_layer_and_the_13th(self):
        for call in ways_to_add(0):
            with self.subTest(call=call):
                self.assertEqual(
                    single_answers([add_layer(0)] * 11 + [call, call, call]),
                    list(range(1, 13)) + [-1, -1],
                )

    def test_layers_in_groups_count(self):
        calls = FOUR_LEVELS + [add_layer(3)] * 4 + [add_adjustment(1, 0)] * 3
        for call in ways_to_add(2):
            with self.subTest(call=call):
                self.assertEqual(single_answers(calls + [call, call])[-2:], [12, -1])

    def test_level_4_and_level_5(self):
        for call in ways_to_add(3):
            with self.subTest(call=call):
                self.assertEqual(last_answer(FOUR_LEVELS + [call]), 5)
        for call in ways_to_add(4):
            with self.subTest(call=call):
                self.assertEqual(last_answer(FOUR_LEVELS + [call]), -1)


class KindTest(unittest.TestCase):
    def test_pass_through_0_and_1_and_above(self):
        self.assertEqual(last_answer([add_group(0, 0)]), 1)
        self.assertEqual(last_answer([add_group(0, 1)]), 1)
        for pass_through in (2, 3, 255, LARGEST):
            with self.subTest(pass_through=pass_through):
                self.assertEqual(last_answer([add_group(0, pass_through)]), -3)

    def test_kinds_0_to_2_and_above(self):
        for kind in range(3):
            self.assertEqual(last_answer([add_adjustment(0, kind)]), 1)
        for kind in (3, 4, 255, LARGEST):
            with self.subTest(kind=kind):
                self.assertEqual(last_answer([add_adjustment(0, kind)]), -3)


class OrderOfErrorsTest(unittest.TestCase):
    def test_a_wrong_kind_comes_first(self):
        for parent in (1, 3, 9):
            self.assertEqual(last_answer(ONE_OF_EACH + [add_group(parent, 2)]), -3)
            self.assertEqual(last_answer(ONE_OF_EACH + [add_adjustment(parent, 3)]), -3)
        full = [add_layer(0)] * 12
        self.assertEqual(last_answer(full + [add_group(0, 2)]), -3)
        self.assertEqual(last_answer(full + [add_adjustment(0, 3)]), -3)
        self.assertEqual(last_answer(FOUR_LEVELS + [add_group(4, 2)]), -3)
        self.assertEqual(last_answer(FOUR_LEVELS + [add_adjustment(4, 3)]), -3)

    def test_a_wrong_parent_comes_before_no_room(self):
        full = [add_layer(0)] * 12
        for parent in (1, 12, 13, LARGEST):
            for call in ways_to_add(parent):
                with self.subTest(call=call):
                    self.assertEqual(last_answer(full + [call]), -2)
        for call in ways_to_add(5):
            with self.subTest(call=call):
                self.assertEqual(last_answer(FOUR_LEVELS + [add_layer(3), call]), -2)

    def test_both_reasons_for_minus_1(self):
        full = FOUR_LEVELS + [add_layer(0)] * 8
        for call in ways_to_add(4):
            self.assertEqual(last_answer(full + [call]), -1)


if __name__ == "__main__":
    unittest.main()
