"""Operation 7: move."""

import unittest

from helper import LARGEST, add_adjustment, add_group, add_layer, answer_lists, document_after
from helper import image_after, last_answer, list_layers, look_at, move, new_canvas, order_after
from helper import paint, remove, set_layer, set_mask, single_answers

# In the root: a raster layer 1, a group 2 with the layers 3 to 5 in it, a pass-through group 6,
# an adjustment layer 7.
START = [
    add_layer(0), add_group(0, 0), add_layer(2), add_layer(2), add_adjustment(2, 1),
    add_group(0, 1), add_adjustment(0, 0),
]
# Groups 1 to 4 of the levels 1 to 4, each in the one before, and a raster layer 5 in the root.
FOUR_LEVELS = [
    add_group(0, 0), add_group(1, 1), add_group(2, 0), add_group(3, 1), add_layer(0),
]


class WithinOneGroupTest(unittest.TestCase):
    def test_every_layer_of_the_root_to_every_position(self):
        for layer in (1, 2, 6, 7):
            others = [other for other in (1, 2, 6, 7) if other != layer]
            for position in range(4):
                calls = START + [move(layer, 0, position)]
                with self.subTest(layer=layer, position=position):
                    self.assertEqual(last_answer(calls), 0)
                    self.assertEqual(
                        order_after(calls), others[:position] + [layer] + others[position:]
                    )
                    self.assertEqual(order_after(calls, 2), [3, 4, 5])

    def test_upward_and_downward_in_a_group(self):
        for layer, position, order in (
            (3, 0, [3, 4, 5]), (3, 1, [4, 3, 5]), (3, 2, [4, 5, 3]),
            (5, 0, [5, 3, 4]), (5, 1, [3, 5, 4]), (5, 2, [3, 4, 5]),
        ):
            with self.subTest(layer=layer, position=position):
                self.assertEqual(order_after(START + [move(layer, 2, position)], 2), order)

    def test_the_layer_itself_is_not_one_of_the_others(self):
        self.assertEqual(last_answer(START + [move(3, 2, 2)]), 0)
        self.assertEqual(last_answer(START + [move(3, 2, 3)]), -5)
        self.assertEqual(single_answers([add_layer(0), move(1, 0, 0), move(1, 0, 1)]), [1, 0, -5])


class ToAnotherGroupTest(unittest.TestCase):
    def test_into_a_group_at_every_position(self):
        for position in range(4):
            calls = START + [move(1, 2, position)]
            order = [3, 4, 5]
            order.insert(position, 1)
            self.assertEqual(last_answer(calls), 0)
            self.assertEqual(order_after(calls, 2), order)
            self.assertEqual(order_after(calls), [2, 6, 7])

    def test_as_high_as_the_number_of_others_and_one_above(self):
        for layer, parent, count in ((1, 2, 3), (7, 6, 0), (4, 0, 4), (6, 2, 3), (2, 6, 0)):
            with self.subTest(layer=layer, parent=parent):
                self.assertEqual(
                    single_answers(START + [
                        move(layer, parent, LARGEST), move(layer, parent, count + 1),
                        move(layer, parent, count),
                    ])[-3:],
                    [-5, -5, 0],
                )

    def test_a_group_goes_with_everything_in_it(self):
        calls = START + [add_layer(6), move(2, 6, 0), move(6, 0, 2)]
        self.assertEqual(single_answers(calls)[-2:], [0, 0])
        self.assertEqual(order_after(calls), [1, 7, 6])
        self.assertEqual(order_after(calls, 6), [2, 8])
        self.assertEqual(order_after(calls, 2), [3, 4, 5])

    def test_a_layer_keeps_its_settings_its_mask_and_its_pixels(self):
        calls = START + [
            set_layer(3, 7, 99, 1, 0), set_mask(3, (0, 0, 1, 1), 44),
            paint(3, (0, 0, 1, 1), (1, 2, 3, 4)),
        ]
        before = look_at(document_after(calls))
        after = look_at(document_after(calls + [move(3, 6, 0)]))
        before["layers"][2]["members"] = [4, 5]
        before["layers"][6]["members"] = [3]
        before["layers"][3]["parent"] = 6
        self.assertEqual(after, before)

    def test_what_is_added_and_moved_then(self):
        # The group 2 has gone into the group 6: level 3 and 4 are left in it.
        calls = START + [move(2, 6, 0), add_group(2, 0), add_layer(8), add_group(8, 0), add_layer(10)]
        self.assertEqual(single_answers(calls)[-5:], [0, 8, 9, 10, -1])

    def test_the_image_follows_the_order(self):
        calls = [
            new_canvas(1, 1), add_layer(0), add_layer(0), paint(1, (0, 0, 1, 1), (255, 0, 0, 255)),
            paint(2, (0, 0, 1, 1), (0, 255, 0, 255)),
        ]
        self.assertEqual(image_after(calls), [(0, 255, 0, 255)])
        self.assertEqual(image_after(calls + [move(1, 0, 1)]), [(255, 0, 0, 255)])
        self.assertEqual(image_after(calls + [move(2, 0, 0)]), [(255, 0, 0, 255)])


class ErrorsTest(unittest.TestCase):
    def test_no_such_layer(self):
        for layer in (0, 8, LARGEST):
            self.assertEqual(last_answer(START + [move(layer, 0, 0)]), -2)

    def test_no_such_parent(self):
        for parent in (1, 4, 5, 7, 8, LARGEST):
            for layer in (2, 3, 6):
                self.assertEqual(last_answer(START + [move(layer, parent, 0)]), -2)

    def test_into_itself_or_into_a_layer_in_it(self):
        for layer in range(1, 5):
            for parent in range(layer, 5):
                with self.subTest(layer=layer, parent=parent):
                    self.assertEqual(last_answer(FOUR_LEVELS + [move(layer, parent, 0)]), -2)
        self.assertEqual(last_answer(START + [move(1, 1, 0)]), -2)
        self.assertEqual(last_answer(START + [move(2, 3, 0)]), -2)

    def test_level_4_and_level_5(self):
        self.assertEqual(single_answers(FOUR_LEVELS + [move(5, 4, 0), move(5, 3, 1)])[-2:], [-1, 0])

    def test_levels_of_a_group_with_layers_in_it(self):
        # Beside the groups 1 to 4 a group 6 with a group 7 and a layer 8 in that: three levels.
        calls = FOUR_LEVELS + [add_group(0, 1), add_group(6, 0), add_layer(7)]
        for layer, parent, answer in (
            (6, 1, 0), (6, 2, -1), (6, 3, -1), (6, 4, -1), (7, 2, 0), (7, 3, -1), (7, 4, -1),
            (8, 3, 0), (8, 4, -1), (1, 6, -1), (2, 6, 0), (2, 7, -1), (3, 7, 0), (4, 7, 0),
        ):
            with self.subTest(layer=layer, parent=parent):
                self.assertEqual(last_answer(calls + [move(layer, parent, 0)]), answer)

    def test_the_deepest_layer_counts_wherever_it_lies(self):
        # The group 6 holds a layer, a group with a layer, and a layer.
        calls = FOUR_LEVELS + [
            add_group(0, 0), add_layer(6), add_group(6, 0), add_layer(8), add_layer(6),
        ]
        self.assertEqual(single_answers(calls + [move(6, 2, 0), move(6, 1, 0)])[-2:], [-1, 0])
        self.assertEqual(
            single_answers(calls + [remove(9), move(6, 3, 0), move(6, 2, 1)])[-3:], [1, -1, 0]
        )

    def test_a_group_on_level_4_moves_within_its_group(self):
        self.assertEqual(single_answers(FOUR_LEVELS + [move(4, 3, 0), move(1, 0, 1)])[-2:], [0, 0])

    def test_the_first_error_is_told(self):
        for call, code in (
            # A wrong layer or parent comes before a level too high and a position too high.
            (move(9, 4, 7), -2), (move(5, 5, 7), -2), (move(5, 9, 7), -2), (move(1, 4, 7), -2),
            (move(1, 1, 7), -2), (move(3, 4, 1), -2), (move(0, 4, 9), -2),
            # A level too high comes before a position too high.
            (move(5, 4, 1), -1), (move(5, 4, LARGEST), -1), (move(5, 3, 2), -5),
        ):
            with self.subTest(call=call):
                self.assertEqual(last_answer(FOUR_LEVELS + [call]), code)

    def test_a_move_that_fails_changes_nothing(self):
        document = FOUR_LEVELS + [
            move(5, 4, 0), move(5, 3, 2), move(1, 3, 0), move(9, 0, 0), move(5, 0, 2),
        ]
        told = answer_lists(document + [list_layers(parent) for parent in range(5)])
        self.assertEqual(told[5:10], [[-1], [-5], [-2], [-2], [-5]])
        self.assertEqual(
            [numbers[1::5] for numbers in told[10:]], [[1, 5], [2], [3], [4], []]
        )


if __name__ == "__main__":
    unittest.main()
