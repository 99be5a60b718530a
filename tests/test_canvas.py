"""Points 4 to 7: init, clear, texture, and what matrix, view and light keep."""

import unittest

from helper import (
    IDENTITY, LIMIT, ONE, bits, clear, init, ask, last, light, matrix, next_up, normals, points, told, texture,
    view,
)
from solidsdrawn.canvas import Canvas
from solidsdrawn.picture import answer_of

FAR_OFF = (-2147483648, -1, 0, 257, 2147483647)
FARTHER = next_up(LIMIT)
BRIGHTER = next_up(1.0)
SCALED = [2, 0, 0, 0, 0, 3, 0, 0, 0, 0, 4, 0, 0, 0, 0, 1]
SHIFTED = (10, 20, 2, 4)


def after(*calls):
    """The canvas as those calls leave it, the calls' answers beside it."""
    canvas = Canvas()
    return canvas, [answer_of(canvas, call) for call in calls]


def is_new(case, canvas, w, h):
    case.assertEqual((canvas.width, canvas.height), (w, h))
    case.assertEqual(canvas.colours, [(0, 0, 0, 0)] * (w * h))
    case.assertEqual(canvas.depths, [ONE] * (w * h))
    case.assertEqual(canvas.textures, {})
    case.assertEqual(canvas.matrix, [told(number) for number in IDENTITY])
    case.assertEqual(canvas.view, [0, 0, ONE, ONE])
    case.assertEqual(canvas.light, [0, 0, 0])
    case.assertIs(canvas.fog, None)


def is_scaled(case, *between):
    """A scaling matrix, a view and a light, then calls that are refused: all three are still there."""
    told_behind = ask(
        init(), matrix(SCALED), view(SHIFTED), light([0, 0.5, 0]), *between, points([1, 1, 1]), normals([0, 2, 0]))
    case.assertEqual(told_behind[4:4 + len(between)], [[-1]] * len(between))
    case.assertEqual(told_behind[-2], [1, told(14.0), told(32.0), told(4.0), ONE])
    case.assertEqual(told_behind[-1], [0, 0, ONE, 0, ONE // 2])


class Init(unittest.TestCase):
    def test_answers_0_within_the_edges(self):
        for w, h in ((1, 1), (1, 256), (256, 1), (256, 256), (17, 3)):
            self.assertEqual(ask(init(w, h)), [[0]])
            self.assertEqual(ask(init(), init(w, h)), [[0], [0]])

    def test_is_refused_past_the_edges(self):
        for number in FAR_OFF:
            self.assertEqual(ask(init(), init(number, 5)), [[0], [-1]])
            self.assertEqual(ask(init(), init(5, number)), [[0], [-1]])
            self.assertEqual(ask(init(), init(number, number)), [[0], [-1]])

    def test_what_is_there_behind_it(self):
        for w, h in ((1, 1), (5, 2), (256, 256)):
            canvas, told_behind = after(init(w, h))
            self.assertEqual(told_behind, [[0]])
            is_new(self, canvas, w, h)

    def test_the_matrix_and_the_view_behind_it(self):
        self.assertEqual(last(init(), points([3, -4, 5])), [1, told(3.0), told(-4.0), told(5.0), ONE])

    def test_the_light_behind_it(self):
        self.assertEqual(last(init(), normals([0, 0, 2])), [0, 0, 0, ONE, 0])

    def test_all_is_new_behind_a_later_one(self):
        sets = (matrix(SCALED), view(SHIFTED), light([0, 1, 0]))
        told_behind = ask(init(), *sets, init(), points([1, 1, 1]), normals([0, 2, 0]))
        self.assertEqual(told_behind[-2], [1, ONE, ONE, ONE, ONE])
        self.assertEqual(told_behind[-1], [0, 0, ONE, 0, 0])
        canvas, _ = after(init(9, 9), clear(7, 3.0), texture(2, 1), *sets, init(2, 3))
        is_new(self, canvas, 2, 3)

    def test_a_refused_one_leaves_all_as_it_was(self):
        is_scaled(self, init(0, 5), init(5, 257), init(-1, -1))
        canvas, _ = after(init(3, 2), clear(0x04030201, 0.5), texture(7, 0, [9, 8, 7, 6]), init(257, 2), init(2, 0))
        self.assertEqual((canvas.width, canvas.height), (3, 2))
        self.assertEqual(canvas.colours, [(1, 2, 3, 4)] * 6)
        self.assertEqual(canvas.depths, [ONE // 2] * 6)
        self.assertEqual(canvas.textures[7].colours, [(9, 8, 7, 6)])


class Clear(unittest.TestCase):
    def test_each_pixel_has_the_colour_and_the_depth(self):
        canvas, told_behind = after(init(3, 5), clear(0xFF010280, -2.5))
        self.assertEqual(told_behind, [[0], [0]])
        self.assertEqual(canvas.colours, [(0x80, 2, 1, 255)] * 15)
        self.assertEqual(canvas.depths, [told(-2.5)] * 15)

    def test_the_last_one_stays(self):
        canvas, _ = after(init(2, 2), clear(1, 2.0), clear(4294967295, 0.0))
        self.assertEqual(canvas.colours, [(255, 255, 255, 255)] * 4)
        self.assertEqual(canvas.depths, [0] * 4)

    def test_depth_at_the_edges(self):
        for depth in (LIMIT, -LIMIT):
            canvas, told_behind = after(init(1, 1), clear(5, depth))
            self.assertEqual(told_behind, [[0], [0]])
            self.assertEqual(canvas.depths, [told(depth)])
            self.assertEqual(last(init(), clear(5, depth)), [0])

    def test_depth_past_the_edges_changes_nothing(self):
        for depth in (FARTHER, -FARTHER, 2.0 ** 127):
            canvas, told_behind = after(init(1, 2), clear(0x04030201, 3.0), clear(5, depth))
            self.assertEqual(told_behind, [[0], [0], [-1]])
            self.assertEqual(canvas.colours, [(1, 2, 3, 4)] * 2)
            self.assertEqual(canvas.depths, [told(3.0)] * 2)
            self.assertEqual(last(init(), clear(5, depth)), [-1])

    def test_all_else_stays(self):
        told_behind = ask(
            init(), matrix(SCALED), light([0, 1, 0]), clear(5, 7.0), points([1, 1, 1]), normals([0, 2, 0]))
        self.assertEqual(told_behind[-2], [1, told(2.0), told(3.0), told(4.0), ONE])
        self.assertEqual(told_behind[-1], [0, 0, ONE, 0, ONE])


class Textures(unittest.TestCase):
    def test_k_at_the_edges(self):
        for k, expected in ((-1, [-1]), (0, [0]), (7, [0]), (8, [-1]), (-2147483648, [-1]), (2147483647, [-1])):
            self.assertEqual(last(init(), texture(k, 0)), expected)

    def test_log_at_the_edges(self):
        for log, expected in ((-1, [-1]), (0, [0]), (5, [0]), (7, [-1]), (-2147483648, [-1]), (2147483647, [-1])):
            self.assertEqual(last(init(), texture(3, log)), expected)

    def test_the_colours_stand_row_by_row(self):
        # A texture with log 6 is too long for a list of calls, yet it lies within the range.
        for log in (0, 1, 3, 5, 6):
            given = [(7 * i + log) % 256 for i in range(4 * 4 ** log)]
            canvas, told_behind = after(init(), texture(4, log, given))
            self.assertEqual(told_behind, [[0], [0]])
            self.assertEqual(list(canvas.textures), [4])
            self.assertEqual(canvas.textures[4].log, log)
            flat = [byte for colour in canvas.textures[4].colours for byte in colour]
            self.assertEqual(flat, given)
            self.assertEqual(len(canvas.textures[4].colours), 4 ** log)

    def test_blue_comes_first(self):
        canvas, _ = after(init(), texture(0, 0, [1, 2, 3, 4]))
        self.assertEqual(canvas.textures[0].colours, [(1, 2, 3, 4)])

    def test_the_same_k_again(self):
        canvas, _ = after(init(), texture(1, 1), texture(2, 0, [5, 5, 5, 5]), texture(1, 0, [1, 2, 3, 4]))
        self.assertEqual(sorted(canvas.textures), [1, 2])
        self.assertEqual(canvas.textures[1].colours, [(1, 2, 3, 4)])
        self.assertEqual(canvas.textures[1].log, 0)
        self.assertEqual(canvas.textures[2].colours, [(5, 5, 5, 5)])

    def test_a_refused_one_changes_nothing(self):
        canvas, told_behind = after(init(), texture(1, 0, [1, 2, 3, 4]), texture(1, 7), texture(1, -1), texture(8, 0))
        self.assertEqual(told_behind, [[0], [0], [-1], [-1], [-1]])
        self.assertEqual(list(canvas.textures), [1])
        self.assertEqual(canvas.textures[1].colours, [(1, 2, 3, 4)])


class Kept(unittest.TestCase):
    def test_matrix_at_and_past_the_edges(self):
        for place in range(16):
            for number, expected in ((LIMIT, [0]), (-LIMIT, [0]), (FARTHER, [-1]), (-FARTHER, [-1])):
                numbers = list(IDENTITY)
                numbers[place] = number
                self.assertEqual(last(init(), matrix(numbers)), expected)

    def test_view_at_and_past_the_edges(self):
        for place in range(4):
            for number, expected in ((LIMIT, [0]), (-LIMIT, [0]), (FARTHER, [-1]), (-FARTHER, [-1])):
                numbers = [0, 0, 1, 1]
                numbers[place] = number
                self.assertEqual(last(init(), view(numbers)), expected)

    def test_light_at_and_past_the_edges(self):
        for place in range(3):
            for number, expected in ((1.0, [0]), (-1.0, [0]), (BRIGHTER, [-1]), (-BRIGHTER, [-1]), (2.0, [-1])):
                numbers = [0, 0, 0]
                numbers[place] = number
                self.assertEqual(last(init(), light(numbers)), expected)

    def test_they_are_there_for_later_calls(self):
        is_scaled(self)
        canvas, _ = after(init(), matrix(range(16)), view([5, 6, 7, 8]), light([0.25, -1, 1]))
        self.assertEqual(canvas.matrix, [told(number) for number in range(16)])
        self.assertEqual(canvas.view, [told(number) for number in (5, 6, 7, 8)])
        self.assertEqual(canvas.light, [told(number) for number in (0.25, -1, 1)])

    def test_the_last_one_stays(self):
        told_behind = ask(init(), matrix(SCALED), matrix(), view(SHIFTED), view((1, 0, 1, 1)), points([1, 1, 1]))
        self.assertEqual(told_behind[-1], [1, told(2.0), ONE, ONE, ONE])

    def test_refused_ones_leave_what_was_there(self):
        # The first number of each is another one that would be taken, the last one is not.
        wrong_matrix = matrix([7] + [0] * 14 + [FARTHER])
        wrong_view = view([7, 7, 7, -FARTHER])
        wrong_light = light([1, 1, BRIGHTER])
        infinite = [3, 16] + [bits(5.0)] * 15 + [0x7F800000]
        is_scaled(self, wrong_matrix, wrong_view, wrong_light, infinite)


if __name__ == "__main__":
    unittest.main()
