"""Operation 8: remove."""

import unittest

from helper import LARGEST, add_adjustment, add_group, add_layer, document_after, image_after
from helper import last_answer, list_layers, look_at, move, order_after, paint, remove
from helper import render_layer, set_layer, set_mask, single_answers

# In the root: a raster layer 1, a group 2 and an adjustment layer 8. In the group 2: a layer 3
# and a pass-through group 4. In the group 4: a layer 5 and a group 6 with a layer 7 in it.
START = [
    add_layer(0), add_group(0, 0), add_layer(2), add_group(2, 1), add_layer(4), add_group(4, 0),
    add_layer(6), add_adjustment(0, 2),
]
BOX = (0, 0, 1, 1)


class RemoveTest(unittest.TestCase):
    def test_how_many_layers_are_removed(self):
        for layer, count in ((1, 1), (2, 6), (3, 1), (4, 4), (5, 1), (6, 2), (7, 1), (8, 1)):
            with self.subTest(layer=layer):
                self.assertEqual(last_answer(START + [remove(layer)]), count)

    def test_what_is_left(self):
        before = look_at(document_after(START))
        after = look_at(document_after(START + [remove(4)]))
        before["layers"][2]["members"] = [3]
        for number in (4, 5, 6, 7):
            del before["layers"][number]
        self.assertEqual(after, before)

    def test_everything_in_a_group_is_gone(self):
        for number in range(2, 8):
            for call in (
                remove(number), move(number, 0, 0), set_layer(number, 0, 255, 0, 1),
                set_mask(number, BOX, 0), paint(number, BOX, (1, 1, 1, 1)), render_layer(number),
                list_layers(number), add_layer(number), move(1, number, 0),
            ):
                with self.subTest(call=call):
                    self.assertEqual(last_answer(START + [remove(2), call]), -2)

    def test_the_order_of_the_others(self):
        for layer, order in ((1, [2, 8]), (2, [1, 8]), (8, [1, 2]), (5, [1, 2, 8])):
            self.assertEqual(order_after(START + [remove(layer)]), order)

    def test_a_layer_that_was_moved_into_the_group_goes_with_it(self):
        calls = START + [move(1, 6, 0), move(3, 0, 0)]
        self.assertEqual(last_answer(calls + [remove(2)]), 6)
        self.assertEqual(order_after(calls + [remove(2)]), [3, 8])

    def test_the_image_without_it(self):
        calls = [
            add_layer(0), add_layer(0), paint(1, BOX, (1, 2, 3, 255)), paint(2, BOX, (9, 9, 9, 255)),
        ]
        self.assertEqual(image_after(calls + [remove(2)]), [(1, 2, 3, 255)])
        self.assertEqual(image_after(calls + [remove(1)]), [(9, 9, 9, 255)])
        self.assertEqual(image_after(calls + [remove(2), remove(1)]), [(0, 0, 0, 0)])


class NumbersTest(unittest.TestCase):
    def test_numbers_are_not_reused(self):
        self.assertEqual(
            single_answers([
                add_layer(0), remove(1), add_layer(0), add_layer(0), remove(3), add_group(0, 0),
            ]),
            [1, 1, 2, 3, 1, 4],
        )

    def test_12_layers_then_one_removed_and_one_added(self):
        for number in range(1, 13):
            calls = [add_layer(0)] * 12 + [
                add_layer(0), remove(number), add_layer(0), add_layer(0), remove(number),
            ]
            with self.subTest(number=number):
                self.assertEqual(single_answers(calls)[-5:], [-1, 1, 13, -1, -2])

    def test_a_removed_group_makes_room_for_all_that_was_in_it(self):
        calls = START + [add_layer(0)] * 4 + [add_layer(0), remove(2)] + [add_layer(0)] * 7
        self.assertEqual(single_answers(calls)[-9:], [-1, 6, 13, 14, 15, 16, 17, 18, -1])


class ErrorsTest(unittest.TestCase):
    def test_no_such_layer(self):
        for layer in (0, 9, LARGEST):
            self.assertEqual(last_answer(START + [remove(layer)]), -2)
        self.assertEqual(single_answers([remove(0), remove(1)]), [-2, -2])

    def test_twice(self):
        self.assertEqual(single_answers(START + [remove(6), remove(6)])[-2:], [2, -2])


if __name__ == "__main__":
    unittest.main()
