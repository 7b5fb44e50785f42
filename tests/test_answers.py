"""The interface: how lists of calls are written and answered."""

import unittest

from helper import LARGEST, add_adjustment, add_group, add_layer, answer_lists, flat
from helper import list_layers, move, new_canvas, paint, pixel, remove, render, render_layer
from helper import set_layer, set_mask, single_answers
from layerimages.canvas import answers

ALL_CALLS = [
    new_canvas(3, 2),
    add_layer(0),
    add_group(0, 1),
    add_adjustment(2, 2),
    paint(1, (0, 0, 2, 2), (10, 20, 30, 40)),
    set_mask(3, (1, 1, 1, 1), 7),
    set_layer(1, 11, 128, 1, 0),
    paint(2, (0, 0, 1, 1), (1, 2, 3, 4)),
    new_canvas(7, 1),
    set_layer(2, 0, 255, 1, 1),
    render(),
    set_layer(1, 0, 51, 0, 1),
    move(2, 0, 2),
    move(2, 0, 0),
    render(),
    pixel(0, 0),
    render_layer(1),
    list_layers(0),
    remove(2),
    list_layers(0),
]
DUE = [
    [0], [1], [2], [3], [0], [0], [0], [-2], [-1], [-4], [0] * 24, [0], [-5], [0],
    [10, 20, 30, 8] * 2 + [0] * 4 + [10, 20, 30, 8] * 2 + [0] * 4,
    [2, 51, 4, 51, 2, 17, 8, 255],
    [10, 20, 30, 40] * 2 + [0] * 4 + [10, 20, 30, 40] * 2 + [0] * 4,
    [2, 2, 0, 255, 0, 1, 1, 0, 51, 0, 1], [2], [1, 1, 0, 51, 0, 1],
]


class FixedList(list):
    """A list that can be read alone: whoever changes it, and be it for a while, fails."""

    def refuse(self, *arguments, **named):
        raise AssertionError("the list handed in was changed")

    append = extend = insert = pop = remove = clear = sort = reverse = refuse
    __setitem__ = __delitem__ = __iadd__ = __imul__ = refuse


class AnswersTest(unittest.TestCase):
    def test_each_answer_is_told_behind_its_count(self):
        self.assertEqual(
            answers([0, 3, 2, 1, 0, 2, 0, 1, 3, 2, 2, 4, 1, 0, 0, 2, 2, 10, 20, 30, 40]),
            [1, 0, 1, 1, 1, 2, 1, 3, 1, 0],
        )
        self.assertEqual(answers([5, 1, 0, 0, 1, 1, 7]), [1, -2])
        self.assertEqual(answers([6, 1, 0, 255, 0, 1]), [1, -2])

    def test_every_call_and_every_error_code(self):
        self.assertEqual(answer_lists(ALL_CALLS), DUE)
        self.assertEqual(sorted({call[0] for call in ALL_CALLS}), list(range(13)))
        self.assertEqual(single_answers([add_group(0, 2)]), [-3])

    def test_each_answer_stands_behind_how_many_numbers_it_has(self):
        self.assertEqual(
            answers(flat(ALL_CALLS)), flat([len(numbers)] + numbers for numbers in DUE)
        )

    def test_the_longest_answers(self):
        calls = [new_canvas(6, 6)] + [render()] * 39
        self.assertEqual(answer_lists(calls), [[0]] + [[0] * 144] * 39)

    def test_answers_are_a_list_of_whole_numbers(self):
        told = answers(flat(ALL_CALLS))
        self.assertIs(type(told), list)
        for number in told:
            self.assertIs(type(number), int)

    def test_a_list_begins_with_a_canvas_of_1_by_1_without_layers(self):
        # The layer of a list asked before is not there, and numbers begin at 1.
        answers([1, 0])
        self.assertEqual(answer_lists([set_layer(1, 0, 255, 0, 1), add_layer(0)]), [[-2], [1]])

    def test_the_same_list_is_answered_alike_again(self):
        calls = flat(ALL_CALLS)
        first = answers(calls)
        answers([0, 6, 6, 1, 0, 1, 0])
        self.assertEqual(answers(calls), first)

    def test_what_is_handed_in_stays_the_same(self):
        calls = flat(ALL_CALLS)
        before = list(calls)
        answers(calls)
        self.assertEqual(calls, before)
        self.assertEqual(answers(FixedList(calls)), answers(before))

    def test_the_answers_of_one_list_are_not_those_of_another(self):
        first = answers([1, 0])
        first.append(99)
        self.assertEqual(answers([1, 0]), [1, 1])

    def test_forty_calls_with_400_numbers(self):
        calls = [paint(1, (LARGEST,) * 4, (LARGEST,) * 4)] * 40
        self.assertEqual(len(flat(calls)), 400)
        self.assertEqual(single_answers(calls), [-2] * 40)


if __name__ == "__main__":
    unittest.main()
