"""Point 11: read and depth; and what clear leaves, as they tell it."""

import unittest

from helper import (
    LIMIT, ONE, all_depths, ask, clear, depth, flat, init, last, marks, next_up, read, rows, sprite, texture, told,
)

FAR_OFF = (-2147483648, 2147483647)


class Read(unittest.TestCase):
    def test_y_at_the_edges(self):
        for h in (1, 3, 256):
            for y, expected in ((-1, [-1]), (0, [2] + [0] * 8), (h - 1, [2] + [0] * 8), (h, [-1])):
                self.assertEqual(last(init(2, h), read(y)), expected)
        for y in FAR_OFF:
            self.assertEqual(last(init(), read(y)), [-1])

    def test_the_height_counts_and_not_the_width(self):
        self.assertEqual(last(init(5, 2), read(2)), [-1])
        self.assertEqual(last(init(1, 3), read(2)), [1, 0, 0, 0, 0])

    def test_the_bytes_order(self):
        told_behind = ask(
            init(2, 2), marks([0.0, 0.0], 0x04030201), marks([1.0, 0.0], 0x08070605), marks([0.0, 1.0], 0x0C0B0A09),
            marks([1.0, 1.0], 0x100F0E0D), read(0), read(1))
        self.assertEqual(told_behind[-2:], [[2, 1, 2, 3, 4, 5, 6, 7, 8], [2, 9, 10, 11, 12, 13, 14, 15, 16]])

    def test_all_of_a_wide_row(self):
        told_behind = last(init(256, 1), clear(0xFF000080, 1.0), read(0))
        self.assertEqual(told_behind, [256] + [0x80, 0, 0, 255] * 256)

    def test_it_changes_nothing(self):
        told_behind = ask(
            init(1, 1), clear(0x04030201, 0.5), read(0), read(1), depth(0, 0), depth(1, 0), read(0), depth(0, 0))
        self.assertEqual(told_behind[2:], [
            [1, 1, 2, 3, 4], [-1], [0, ONE // 2], [-1], [1, 1, 2, 3, 4], [0, ONE // 2]])


class Depth(unittest.TestCase):
    def test_x_and_y_at_the_edges(self):
        for w, h in ((1, 1), (3, 2), (2, 3), (256, 256)):
            for x, inside in ((-1, False), (0, True), (w - 1, True), (w, False)):
                self.assertEqual(last(init(w, h), depth(x, 0)), [0, ONE] if inside else [-1])
                self.assertEqual(last(init(w, h), depth(x, h)), [-1])
            for y, inside in ((-1, False), (0, True), (h - 1, True), (h, False)):
                self.assertEqual(last(init(w, h), depth(0, y)), [0, ONE] if inside else [-1])
                self.assertEqual(last(init(w, h), depth(-1, y)), [-1])
        for number in FAR_OFF:
            self.assertEqual(last(init(), depth(number, 0)), [-1])
            self.assertEqual(last(init(), depth(0, number)), [-1])

    def test_which_pixel(self):
        calls = [init(3, 2), clear(0, LIMIT), texture(0, 0)]
        calls += [sprite(x=place % 3, y=place // 3, z=place - 2.5) for place in range(6)]
        told_behind = ask(*calls, *all_depths(3, 2))
        self.assertEqual(told_behind[-6:], [[0, told(place - 2.5)] for place in range(6)])

    def test_below_0_and_small_ones(self):
        for number in (-1.5, -LIMIT, LIMIT, 2.0 ** -149, -2.0 ** -149, -2.0 ** -126, 0.0):
            self.assertEqual(last(init(), clear(0, number), depth(0, 0)), [0, told(number)])
        self.assertEqual(last(init(), [1, 0, 0x80000000], depth(0, 0)), [0, 0])

    def test_of_a_triangle_below_0(self):
        self.assertEqual(last(init(1, 1), texture(0, 0), flat(z=-2.75), depth(0, 0)), [0, told(-2.75)])


class Cleared(unittest.TestCase):
    def test_each_pixel_has_the_colour_and_the_depth(self):
        told_behind = ask(init(3, 2), clear(0x80FF0201, -7.25), *rows(2), *all_depths(3, 2))
        self.assertEqual(told_behind[2:4], [[3] + [1, 2, 255, 128] * 3] * 2)
        self.assertEqual(told_behind[4:], [[0, told(-7.25)]] * 6)

    def test_over_what_was_drawn(self):
        told_behind = ask(
            init(2, 1), texture(0, 0, [9, 9, 9, 9]), sprite(), marks([1.0, 0.0]), clear(0x04030201, 3.0), *rows(1),
            *all_depths(2, 1))
        self.assertEqual(told_behind[5:], [[2] + [1, 2, 3, 4] * 2, [0, 3 * ONE], [0, 3 * ONE]])

    def test_a_refused_one_changes_nothing(self):
        wrong = (clear(7, next_up(LIMIT)), clear(7, -next_up(LIMIT)), [1, 7, 0x7F800000], [1, 7, 0xFFC00000])
        for call in wrong:
            told_behind = ask(init(1, 2), clear(0x04030201, 0.5), call, *rows(2), *all_depths(1, 2))
            self.assertEqual(told_behind[2:], [[-1]] + [[1, 1, 2, 3, 4]] * 2 + [[0, ONE // 2]] * 2)

    def test_textures_stay(self):
        told_behind = ask(init(1, 1), texture(3, 0, [1, 2, 3, 4]), clear(0, 1.0), sprite(k=3), read(0))
        self.assertEqual(told_behind[3:], [[1], [1, 1, 2, 3, 4]])


class FirstPicture(unittest.TestCase):
    def test_black_and_of_depth_1(self):
        for w, h in ((1, 1), (3, 2), (2, 4)):
            told_behind = ask(init(w, h), *rows(h), *all_depths(w, h))
            self.assertEqual(told_behind[1:], [[w] + [0] * (4 * w)] * h + [[0, ONE]] * (w * h))

    def test_behind_a_later_init(self):
        told_behind = ask(
            init(2, 2), clear(0xFFFFFFFF, 0.5), texture(0, 0), init(1, 3), *rows(3), *all_depths(1, 3), read(3),
            depth(1, 0),
            sprite(), flat())
        self.assertEqual(told_behind[4:], [[1, 0, 0, 0, 0]] * 3 + [[0, ONE]] * 3 + [[-1], [-1], [-2], [-2]])

    def test_a_refused_init_changes_nothing(self):
        told_behind = ask(
            init(2, 1), clear(0x04030201, 0.5), texture(0, 0, [9, 8, 7, 6]), init(0, 1), init(1, 257), *rows(1),
            *all_depths(2, 1), read(1), sprite(x=1), *rows(1))
        self.assertEqual(told_behind[3:], [
            [-1], [-1], [2, 1, 2, 3, 4, 1, 2, 3, 4], [0, ONE // 2], [0, ONE // 2], [-1], [1],
            [2, 1, 2, 3, 4, 9, 8, 7, 6]])


if __name__ == "__main__":
    unittest.main()
