"""Whole lists of calls beside a second reading of the words; points 6 and 7."""

import unittest
from fractions import Fraction

from helper import LARGEST, add_adjustment, add_group, add_layer, answer_lists, image_after, flat
from helper import list_layers, move, new_canvas, paint, pixel, remove, render, render_layer
from helper import set_layer, set_mask
from layerimages.canvas import answers
from test_modes import due

EMPTY = (Fraction(0),) * 4
HOW_MANY_ARGUMENTS = (2, 1, 2, 2, 9, 6, 5, 3, 1, 0, 2, 1, 1)


class Draws:
    """Numbers that look drawn and are the same in every run."""

    def __init__(self, seed):
        self.state = seed

    def below(self, limit):
        self.state = (self.state * 6364136223846793005 + 1442695040888963407) % 2 ** 64
        return (self.state >> 33) % limit

    def one_of(self, values):
        return values[self.below(len(values))]


class Node:
    def __init__(self, number, sort, detail=0, size=0):
        self.number = number
        self.sort = sort
        self.detail = detail
        self.mode, self.opacity, self.clip, self.visible = 0, 255, 0, 1
        self.mask = {}
        self.paint = {}
        self.inner = []

    def weight(self, at):
        return Fraction(self.opacity * self.mask.get(at, 255), 65025)

    def is_group(self):
        return self.sort == "group"

    def all_inner(self):
        return [self] + [deep for node in self.inner for deep in node.all_inner()]

    def height(self):
        return 1 + max([node.height() for node in self.inner], default=0)


class Words:
    """The document's words once more, on trees of nodes and with Python's own fractions."""

    def __init__(self):
        self.start(1, 1)

    def start(self, width, height):
        self.width, self.height, self.count = width, height, 1
        self.root = Node(0, "group")

    def all(self):
        return {node.number: node for node in self.root.all_inner()}

    def layer(self, number):
        return self.all().get(number) if number else None

    def group(self, number):
        node = self.all().get(number)
        return node if node is not None and node.is_group() else None

    def holder(self, node):
        return [group for group in self.root.all_inner() if node in group.inner][0]

    def level(self, node):
        return 0 if node.number == 0 else 1 + self.level(self.holder(node))

    def answer(self, call):
        return [
            self.new_canvas, self.add_layer, self.add_group, self.add_adjustment, self.paint,
            self.set_mask, self.set_layer, self.move, self.remove, self.render, self.pixel,
            self.render_layer, self.list_layers,
        ][call[0]](*call[1:])

    def new_canvas(self, width, height):
        if not (1 <= width <= 6 and 1 <= height <= 6):
            return [-1]
        self.start(width, height)
        return [0]

    def add(self, parent, sort, detail):
        group = self.group(parent)
        if group is None:
            return [-2]
        if len(self.all()) == 13 or self.level(group) == 4:
            return [-1]
        group.inner.append(Node(self.count, sort, detail))
        self.count += 1
        return [self.count - 1]

    def add_layer(self, parent):
        return self.add(parent, "raster", 0)

    def add_group(self, parent, pass_through):
        return [-3] if pass_through > 1 else self.add(parent, "group", pass_through)

    def add_adjustment(self, parent, kind):
        return [-3] if kind > 2 else self.add(parent, "adjustment", kind)

    def positions(self):
        return [(x, y) for y in range(self.height) for x in range(self.width)]

    def box(self, x, y, width, height):
        return [
            (column, row) for column, row in self.positions()
            if x <= column <= x + width - 1 and y <= row <= y + height - 1
        ]

    def paint(self, number, x, y, width, height, *colour):
        node = self.layer(number)
        if node is None or node.sort != "raster":
            return [-2]
        if max(colour) > 255:
            return [-3]
        for at in self.box(x, y, width, height):
            node.paint[at] = tuple(Fraction(byte, 255) for byte in colour) if colour[3] else EMPTY
        return [0]

    def set_mask(self, number, x, y, width, height, value):
        node = self.layer(number)
        if node is None:
            return [-2]
        if value > 255:
            return [-3]
        for at in self.box(x, y, width, height):
            node.mask[at] = value
        return [0]

    def set_layer(self, number, mode, opacity, clip, visible):
        node = self.layer(number)
        if node is None:
            return [-2]
        if mode > 11 or opacity > 255 or clip > 1 or visible > 1:
            return [-3]
        if clip and node.is_group() and node.detail:
            return [-4]
        node.mode, node.opacity, node.clip, node.visible = mode, opacity, clip, visible
        return [0]

    def move(self, number, parent, position):
        node, group = self.layer(number), self.group(parent)
        if node is None or group is None or group in node.all_inner():
            return [-2]
        if self.level(group) + node.height() > 4:
            return [-1]
        others = [other for other in group.inner if other is not node]
        if len(others) < position:
            return [-5]
        self.holder(node).inner.remove(node)
        group.inner[position:position] = [node]
        return [0]

    def remove(self, number):
        node = self.layer(number)
        if node is None:
            return [-2]
        self.holder(node).inner.remove(node)
        return [len(node.all_inner())]

    def as_bytes(self, values):
        return [int(255 * value + Fraction(1, 2)) for value in values]

    def render(self):
        return [
            byte for at in self.positions()
            for byte in self.as_bytes(self.composite(self.root, at, EMPTY))
        ]

    def pixel(self, x, y):
        if x >= self.width or y >= self.height:
            return [-1]
        values = self.composite(self.root, (x, y), EMPTY)
        return [number for value in values for number in (value.numerator, value.denominator)]

    def render_layer(self, number):
        node = self.layer(number)
        if node is None or node.sort == "adjustment":
            return [-2]
        return [byte for at in self.positions() for byte in self.as_bytes(self.own(node, at))]

    def list_layers(self, parent):
        group = self.group(parent)
        if group is None:
            return [-2]
        return [len(group.inner)] + [
            number for node in group.inner
            for number in (node.number, node.mode, node.opacity, node.clip, node.visible)
        ]

    def own(self, node, at):
        return node.paint.get(at, EMPTY) if node.sort == "raster" else self.composite(node, at, EMPTY)

    def base(self, inner, place):
        """The layer that the one at this place of its group has as its base, or None."""
        if place == 0 or not inner[place].clip:
            return None
        below = place - 1
        while below > 0 and inner[below].clip:
            below -= 1
        base = inner[below]
        return base if base.sort == "raster" or (base.is_group() and not base.detail) else None

    def upper(self, node, at, below):
        if node.sort != "adjustment":
            return self.own(node, at)
        c = below[:3]
        if node.detail == 0:
            return (1 - c[0], 1 - c[1], 1 - c[2], Fraction(1))
        if node.detail == 1:
            return ((3 * c[0] + 6 * c[1] + c[2]) / 10,) * 3 + (Fraction(1),)
        half = Fraction(1, 2)
        return (*[x / 2 if x <= half else 1 - (1 - x) / 2 for x in c], Fraction(1))

    def composite(self, group, at, q):
        bases = [self.base(group.inner, place) for place in range(len(group.inner))]
        for node, base in zip(group.inner, bases):
            if base is not None or not node.visible:
                continue
            if node.sort == "adjustment":
                q = self.atop(node, at, q, self.upper(node, at, q))
            elif node.is_group() and node.detail:
                q = self.mixed(node.weight(at), q, self.composite(node, at, q))
            else:
                p = self.own(node, at)
                for other, its_base in zip(group.inner, bases):
                    if its_base is node and other.visible:
                        p = self.atop(other, at, p, self.upper(other, at, p))
                q = self.over(node, at, q, p)
        return q

    def over(self, node, at, lower, upper):
        a, e = node.weight(at) * upper[3], lower[3]
        t = a + e - a * e
        if t == 0:
            return EMPTY
        return (*[
            (a * ((1 - e) * s + e * due(node.mode, b, s)) + (1 - a) * e * b) / t
            for b, s in zip(lower[:3], upper[:3])
        ], t)

    def atop(self, node, at, lower, upper):
        a = node.weight(at) * upper[3]
        if lower[3] == 0:
            return EMPTY
        return (*[
            (1 - a) * b + a * due(node.mode, b, s) for b, s in zip(lower[:3], upper[:3])
        ], lower[3])

    def mixed(self, m, q, r):
        alpha = (1 - m) * q[3] + m * r[3]
        if alpha == 0:
            return EMPTY
        return (*[((1 - m) * q[3] * b + m * r[3] * c) / alpha for b, c in zip(q[:3], r[:3])], alpha)


def drawn_colour(draws):
    return [draws.one_of((0, 1, 51, 127, 128, 254, 255, draws.below(256))) for channel in range(4)]


def drawn_box(draws):
    return [draws.below(4), draws.below(4), draws.one_of((1, 2, 6, LARGEST)), 1 + draws.below(6)]


def drawn_setting(draws, layer, clips):
    return set_layer(
        layer, draws.below(12), draws.one_of((255, 255, 128, draws.below(256))),
        draws.below(2) if clips else 0, 0 if draws.below(6) == 0 else 1,
    )


def drawn_document(draws, clips):
    """Calls, at most 28, that make layers of all kinds within each other, on up to 3 by 2 pixels."""
    calls = [new_canvas(1 + draws.below(3), 1 + draws.below(2))]
    groups = [0]
    rasters = []
    for number in range(1, 9):
        parent = draws.one_of(groups)
        sort = draws.below(8)
        if sort < 3 and len(groups) < 4:
            calls.append(add_group(parent, draws.below(2)))
            groups.append(number)
        elif sort < 5:
            calls.append(add_adjustment(parent, draws.below(3)))
        else:
            calls.append(add_layer(parent))
            rasters.append(number)
    for number in rasters:
        corner = [draws.one_of((0, 0, 0, 1)), draws.one_of((0, 0, 0, 1))]
        calls.append(paint(number, corner + [draws.one_of((1, 2, 6, LARGEST)), 6], drawn_colour(draws)))
    for turn in range(8):
        calls.append(drawn_setting(draws, 1 + draws.below(8), clips))
    for turn in range(3):
        calls.append(set_mask(1 + draws.below(8), drawn_box(draws), draws.below(256)))
    return calls


def drawn_call(draws):
    """A call of any operation, with arguments that are often wrong."""
    operation = draws.below(13)
    return [operation] + [
        draws.one_of((0, 0, 1, 1, 1, 2, 2, 3, 4, 5, 6, 12, 255, 256, LARGEST))
        for argument in range(HOW_MANY_ARGUMENTS[operation])
    ]


def told_by_words(calls):
    words = Words()
    return [words.answer(call) for call in calls]


class SecondReadingTest(unittest.TestCase):
    def compare(self, calls):
        self.assertLessEqual(len(calls), 40)
        given = flat(calls)
        before = list(given)
        self.assertEqual(answer_lists(calls), told_by_words(calls), calls)
        self.assertEqual(answers(given), answers(given))
        self.assertEqual(given, before)

    def test_drawn_documents(self):
        for seed in range(250):
            draws = Draws(seed)
            calls = drawn_document(draws, True)
            calls += [render(), pixel(0, 0), list_layers(0)]
            calls += [render_layer(1 + draws.below(8)) for turn in range(2)]
            self.compare(calls)

    def test_drawn_documents_that_are_moved_about(self):
        for seed in range(250):
            draws = Draws(1000 + seed)
            calls = drawn_document(draws, True)
            for turn in range(3):
                layer, parent = 1 + draws.below(8), draws.below(9)
                calls += [move(layer, parent, draws.below(4)), list_layers(parent)]
            calls += [remove(1 + draws.below(8)), list_layers(0), add_layer(0), render()]
            self.compare(calls)

    def test_any_calls(self):
        for seed in range(400):
            draws = Draws(2000 + seed)
            calls = [add_layer(0), add_group(0, draws.below(2)), add_adjustment(2, 1), add_layer(2)]
            self.compare(calls[draws.below(4):] + [drawn_call(draws) for turn in range(36)])


def tree_after(calls):
    words = Words()
    for call in calls:
        told = words.answer(call)
        if told[0] == -1 or told[0] == -2:
            raise AssertionError((call, told))
    return words


class Point6Test(unittest.TestCase):
    """The layers of a group take its place: they are moved out of it, and it is removed."""

    def dissolved(self, words, group):
        holder = words.holder(group)
        place = holder.inner.index(group)
        calls = [
            move(node.number, holder.number, place + above)
            for above, node in enumerate(group.inner, start=1)
        ]
        return calls + [remove(group.number)]

    def is_plain(self, group):
        """Whether all in an isolated group is raster layers and isolated groups with the mode 0."""
        return group.mode == 0 and all(
            node.mode == 0 and node.sort != "adjustment" and not node.detail
            for node in group.all_inner()
        )

    def applies(self, words, group):
        beside = words.holder(group).inner
        return (
            group.is_group() and group.visible and group.opacity == 255
            and all(not node.clip for node in group.all_inner() + beside)
            and (group.detail == 1 or self.is_plain(group))
        )

    def check(self, calls):
        """How many groups of this document the point speaks of, pass-through and isolated ones."""
        words = tree_after(calls)
        seen = [0, 0]
        image = image_after(calls)
        for group in list(words.all().values())[1:]:
            places = [
                place for place, at in enumerate(words.positions())
                if group.mask.get(at, 255) == 255
            ]
            if places and group.inner and self.applies(words, group):
                after = calls + self.dissolved(words, group)
                self.assertLessEqual(len(after) + 1, 40)
                # Each of the moves has to be one that is done.
                self.assertTrue(all(numbers[0] >= 0 for numbers in answer_lists(after)[len(calls):]))
                dissolved = image_after(after)
                for place in places:
                    self.assertEqual(dissolved[place], image[place], (calls, group.number))
                x, y = words.positions()[places[0]]
                self.assertEqual(
                    answer_lists(after + [pixel(x, y)])[-1], answer_lists(calls + [pixel(x, y)])[-1]
                )
                seen[1 - group.detail] += 1
        return seen

    def test_drawn_documents(self):
        seen = [0, 0]
        for seed in range(300):
            calls = drawn_document(Draws(3000 + seed), False)
            if seed % 2 == 1:
                # With other modes hardly any isolated group is one that the point speaks of.
                calls = [call[:2] + [0] + call[3:] if call[0] == 6 else call for call in calls]
            both = self.check(calls)
            seen = [seen[0] + both[0], seen[1] + both[1]]
        self.assertGreater(min(seen), 20, seen)

    def test_an_isolated_group_with_the_mode_0(self):
        for modes in ((0, 1, 2, 3, 5), (0, 0, 0, 0, 0)):
            calls = [
                add_layer(0), add_group(0, 0), add_layer(2), add_group(2, 0), add_layer(4),
                add_layer(2), add_layer(0), set_layer(1, modes[1], 200, 0, 1),
                set_layer(7, modes[3], 150, 0, 1), set_layer(5, 0, 99, 0, 1),
                set_mask(6, (0, 0, 1, 1), 77),
            ]
            calls += [
                paint(layer, (0, 0, 1, 1), (10 * layer, 255 - 30 * layer, 99, 40 + 20 * layer))
                for layer in (1, 3, 5, 6, 7)
            ]
            self.assertEqual(self.check(calls), [0, 2])


class Point7Test(unittest.TestCase):
    def check(self, calls):
        words = tree_after(calls)
        seen = 0
        image = answer_lists(calls + [render(), pixel(0, 0)])[-2:]
        for group in words.root.all_inner():
            if any(node.clip for node in group.inner):
                continue
            for node in group.inner:
                if not node.visible:
                    after = calls + [remove(node.number), render(), pixel(0, 0)]
                    self.assertEqual(answer_lists(after)[-2:], image, (calls, node.number))
                    seen += 1
        return seen

    def test_drawn_documents(self):
        seen = 0
        for seed in range(300):
            seen += self.check(drawn_document(Draws(4000 + seed), seed % 2 == 1))
        self.assertGreater(seen, 100)


if __name__ == "__main__":
    unittest.main()
