"""Points 2, 9 and 10: colours mixed, the mean, fade, soften and marks."""

import unittest

from helper import (
    LIMIT, ONE, Source, all_depths, ask, clear, depth, double_bits, double_of, fade, init, last, marks, pixel, read,
    rows,
    same_as_model, soften, sprite, texture, with_bits,
)

DOUBLE_INFINITY = 0x7FF0000000000000
DOUBLES_NOT_FINITE = (
    DOUBLE_INFINITY, DOUBLE_INFINITY + 1, 0x7FF8000000000000, 0x7FFFFFFFFFFFFFFF,
    0xFFF0000000000000, 0xFFF0000000000001, 0xFFF8000000000000, 0xFFFFFFFFFFFFFFFF,
)
FAR_OFF = (-2147483648, -1, 257, 2147483647)


def painted(w, h, bytes_of_it):
    """Calls that give a picture of w by h those bytes and depths from 0 on: one sprite to each pixel."""
    calls = [init(w, h), clear(0, LIMIT)]
    for place in range(w * h):
        calls.append(texture(0, 0, bytes_of_it[4 * place:4 * place + 4]))
        calls.append(sprite(x=place % w, y=place // w, z=float(place)))
    return calls


def picture_behind(w, h, bytes_of_it, *calls):
    """All of the picture's bytes behind those calls; the depths must still be there."""
    told_behind = ask(*painted(w, h, bytes_of_it), *calls, *rows(h), *all_depths(w, h))
    depths = [answer[1] for answer in told_behind[len(told_behind) - w * h:]]
    assert depths == [place * ONE for place in range(w * h)], depths
    rows_told = told_behind[len(told_behind) - w * h - h:len(told_behind) - w * h]
    return [byte for answer in rows_told for byte in answer[1:]]


def grey(numbers):
    return [byte for number in numbers for byte in (number,) * 4]


class Fade(unittest.TestCase):
    def test_by_at_the_edges(self):
        for by, expected in ((-1, [-1]), (0, [0]), (128, [0]), (129, [-1]), (-2147483648, [-1]), (2147483647, [-1])):
            self.assertEqual(last(init(), fade(0x01020304, by)), expected)

    def test_none_and_all_of_it(self):
        self.assertEqual(picture_behind(2, 1, [1, 2, 3, 4, 250, 251, 252, 253], fade(0x99887766, 0)),
                         [1, 2, 3, 4, 250, 251, 252, 253])
        self.assertEqual(picture_behind(2, 1, [1, 2, 3, 4, 250, 251, 252, 253], fade(0x99887766, 128)),
                         [0x66, 0x77, 0x88, 0x99] * 2)

    def test_up_and_down_rounded_down(self):
        # A byte that goes up by a part of 1 stays, one that goes down by a part of 1 goes down by 1.
        self.assertEqual(picture_behind(1, 1, [100, 100, 100, 100], fade(0x65636564, 1)), [100, 100, 99, 100])
        self.assertEqual(picture_behind(1, 1, [0, 255, 0, 255], fade(0x00FF00FF, 1)), [1, 253, 1, 253])
        self.assertEqual(picture_behind(1, 1, [0, 255, 0, 255], fade(0x00FF00FF, 127)), [253, 1, 253, 1])
        self.assertEqual(picture_behind(1, 1, [10, 10, 20, 20], fade(0x0A0A1514, 64)), [15, 15, 15, 15])

    def test_each_byte_by_its_own(self):
        self.assertEqual(picture_behind(1, 1, [0, 0, 0, 0], fade(0x04030201, 128)), [1, 2, 3, 4])
        self.assertEqual(picture_behind(1, 1, [8, 8, 8, 8], fade(0x48382818, 64)), [16, 24, 32, 40])

    def test_every_pixel(self):
        colours = [byte % 256 for byte in range(0, 7 * 4 * 12, 7)]
        faded = [byte + (200 - byte) * 40 // 128 for byte in colours]
        self.assertEqual(picture_behind(4, 3, colours, fade(0xC8C8C8C8, 40)), faded)

    def test_a_refused_one_changes_nothing(self):
        for by in (-1, 129):
            self.assertEqual(picture_behind(1, 2, list(range(8)), fade(0xFFFFFFFF, by)), list(range(8)))

    def test_one_behind_another(self):
        self.assertEqual(pixel(fade(0xFFFFFFFF, 64), fade(0xFFFFFFFF, 64), fade(0, 1)), ([189] * 4, ONE))

    def test_against_the_model(self):
        source = Source(21).random
        for _ in range(60):
            calls = painted(2, 2, [source.randrange(256) for _ in range(16)])
            calls.append(fade(source.getrandbits(32), source.randint(0, 128)))
            same_as_model(self, *calls, *rows(2), *all_depths(2, 2))


class Soften(unittest.TestCase):
    def test_inner_pixels_and_the_last_column_and_row(self):
        told_bytes = picture_behind(3, 3, grey([0, 10, 20, 40, 50, 60, 100, 110, 120]), soften())
        self.assertEqual(told_bytes, grey([25, 35, 40, 75, 85, 90, 105, 115, 120]))

    def test_the_mean_is_rounded_up_at_each_step(self):
        # Across 1, 0 gives 1, and 0, 0 gives 0; their mean is 1. All four at once would be 0.
        self.assertEqual(picture_behind(2, 2, grey([1, 0, 0, 0]), soften())[:4], [1] * 4)
        # Across 0, 1 and 2, 1 gives 1 and 2, so 2; down first it would be 1 and 1.
        self.assertEqual(picture_behind(2, 2, grey([0, 1, 2, 1]), soften())[:4], [2] * 4)
        self.assertEqual(picture_behind(2, 2, grey([0, 2, 0, 0]), soften())[:4], [1] * 4)

    def test_one_pixel(self):
        self.assertEqual(picture_behind(1, 1, [1, 2, 3, 255], soften()), [1, 2, 3, 255])

    def test_one_column(self):
        self.assertEqual(picture_behind(1, 4, grey([0, 10, 20, 255]), soften()), grey([5, 15, 138, 255]))

    def test_one_row(self):
        self.assertEqual(picture_behind(4, 1, grey([0, 10, 20, 255]), soften()), grey([5, 15, 138, 255]))

    def test_it_goes_from_the_colours_before_the_call(self):
        # Were the pixels taken as they are changed, one of these would be carried on to the left or up.
        self.assertEqual(picture_behind(4, 1, grey([0, 0, 0, 200]), soften()), grey([0, 0, 100, 200]))
        self.assertEqual(picture_behind(4, 1, grey([200, 0, 0, 0]), soften()), grey([100, 0, 0, 0]))
        self.assertEqual(picture_behind(1, 4, grey([0, 0, 0, 200]), soften()), grey([0, 0, 100, 200]))
        self.assertEqual(picture_behind(1, 4, grey([200, 0, 0, 0]), soften()), grey([100, 0, 0, 0]))

    def test_all_four_bytes_each_by_its_own(self):
        self.assertEqual(picture_behind(2, 1, [0, 100, 0, 7, 255, 0, 1, 9], soften()), [128, 50, 1, 8, 255, 0, 1, 9])

    def test_white_stays_white(self):
        self.assertEqual(picture_behind(3, 2, [255] * 24, soften(), soften()), [255] * 24)

    def test_twice(self):
        self.assertEqual(picture_behind(3, 1, grey([0, 0, 200]), soften(), soften()), grey([50, 150, 200]))

    def test_a_wide_picture(self):
        told_behind = ask(init(256, 2), marks([255.0, 0.0, 0.0, 1.0], 0x80808080), soften(), read(0), read(1))
        self.assertEqual(told_behind[-2][1:], grey([32] + [0] * 253 + [32, 64]))
        self.assertEqual(told_behind[-1][1:], grey([64] + [0] * 255))

    def test_against_the_model(self):
        source = Source(22).random
        for w, h in ((1, 1), (1, 5), (5, 1), (2, 2), (3, 5), (5, 3), (4, 4)) * 4:
            calls = painted(w, h, [source.randrange(256) for _ in range(4 * w * h)])
            same_as_model(self, *calls, soften(), *rows(h), *all_depths(w, h))


class Marks(unittest.TestCase):
    def marked(self, *numbers):
        """Where in a picture of 4 by 3 such a mark is put; None if nowhere."""
        told_behind = ask(init(4, 3), marks(numbers), *rows(3))
        told_bytes = [byte for answer in told_behind[2:] for byte in answer[1:]]
        places = [place for place in range(12) if told_bytes[4 * place:4 * place + 4] == [255] * 4]
        self.assertEqual(sum(told_bytes), 255 * 4 * len(places))
        self.assertEqual(told_behind[1], [len(places)])
        return (places[0] % 4, places[0] // 4) if places else None

    def test_ordinary_ones(self):
        for x in range(4):
            for y in range(3):
                self.assertEqual(self.marked(float(x), float(y)), (x, y))
        self.assertEqual(self.marked(1.3, 1.7), (1, 2))

    def test_the_picture_s_edges(self):
        for x, y in ((-1.0, 0.0), (0.0, -1.0), (4.0, 0.0), (0.0, 3.0), (LIMIT, 0.0), (0.0, -LIMIT), (4.0, 3.0)):
            self.assertIsNone(self.marked(x, y))

    def test_halves_go_to_the_even_one(self):
        for number, expected in ((0.5, 0), (1.5, 2), (2.5, 2), (-0.5, 0)):
            self.assertEqual(self.marked(number, 0.0), (expected, 0))
            self.assertEqual(self.marked(0.0, number), (0, expected))
        for number in (-1.5, -2.5, 3.5):
            self.assertIsNone(self.marked(number, 0.0))
        self.assertIsNone(self.marked(0.0, 3.5))
        self.assertEqual(self.marked(0.0, 2.5), (0, 2))

    def test_just_off_the_halves(self):
        above = {0.5: 1, 1.5: 2, 2.5: 3, -0.5: 0}
        below = {0.5: 0, 1.5: 1, 2.5: 2, 3.5: 3}
        for number, expected in above.items():
            self.assertEqual(
                self.marked(double_of(double_bits(number) + (1 if number > 0 else -1)), 0.0), (expected, 0))
        for number, expected in below.items():
            self.assertEqual(self.marked(double_of(double_bits(number) - 1), 0.0), (expected, 0))
        self.assertIsNone(self.marked(double_of(double_bits(-0.5) + 1), 0.0))
        self.assertIsNone(self.marked(double_of(double_bits(3.5) + 1), 0.0))

    def test_both_zeros_and_the_smallest(self):
        for number in (0.0, -0.0, 5e-324, -5e-324, double_of(0x000FFFFFFFFFFFFF), double_of(0x800FFFFFFFFFFFFF)):
            self.assertEqual(self.marked(number, 1.0), (0, 1))
            self.assertEqual(self.marked(1.0, number), (1, 0))
        self.assertEqual(self.marked(double_of(0x0010000000000000), 1.0), (0, 1))

    def test_n_at_the_edges(self):
        self.assertEqual(last(init(), marks([])), [0])
        self.assertEqual(last(init(), marks([1.0, 1.0] * 256)), [256])
        for n in FAR_OFF:
            self.assertEqual(last(init(), marks([], 5, n)), [-1])

    def test_numbers_at_and_past_the_edges(self):
        past = double_of(double_bits(LIMIT) + 1)
        for place in range(4):
            for number, expected in ((LIMIT, [1]), (-LIMIT, [1]), (past, [-1]), (-past, [-1]), (1e300, [-1])):
                numbers = [1.0] * 4
                numbers[place] = number
                self.assertEqual(last(init(), marks(numbers)), expected)

    def test_not_finite(self):
        for pattern in DOUBLES_NOT_FINITE:
            for place in range(4):
                self.assertEqual(last(init(), with_bits(marks([1.0] * 4), place, pattern)), [-1])

    def test_a_refused_one_changes_nothing_though_places_ahead_were_good(self):
        for pattern in (DOUBLE_INFINITY, double_bits(LIMIT) + 1, double_bits(-2.0 ** 21)):
            for place in (2, 3):
                call = with_bits(marks([0.0, 0.0, 1.0, 0.0], 0xFFFFFFFF), place, pattern)
                told_behind = ask(init(2, 1), clear(0x04030201, 1.0), call, read(0))
                self.assertEqual(told_behind[2:], [[-1], [2, 1, 2, 3, 4, 1, 2, 3, 4]])

    def test_one_marked_twice_counts_twice(self):
        told_behind = ask(init(2, 1), marks([1.0, 0.0, 1.25, -0.25, 0.75, 0.5], 0x04030201), read(0))
        self.assertEqual(told_behind[1:], [[3], [2, 0, 0, 0, 0, 1, 2, 3, 4]])

    def test_only_those_in_the_picture_count(self):
        numbers = [-1.0, 0.0, 0.0, 0.0, 2.0, 0.0, 1.0, 1.0, 1.0, 0.0, 0.0, -1.0]
        told_behind = ask(init(2, 1), marks(numbers, 0x04030201), read(0))
        self.assertEqual(told_behind[1:], [[2], [2, 1, 2, 3, 4, 1, 2, 3, 4]])

    def test_the_depth_stays_whatever_it_is(self):
        for there in (-LIMIT, -1.0, 0.0, 1.0, LIMIT):
            told_behind = ask(
                init(2, 1), clear(7, there), depth(0, 0), marks([0.0, 0.0], 0x04030201), read(0), depth(0, 0),
                depth(1, 0))
            self.assertEqual(told_behind[3:5], [[1], [2, 1, 2, 3, 4, 7, 0, 0, 0]])
            self.assertEqual(told_behind[5:], [told_behind[2]] * 2)

    def test_the_colour_takes_its_place_whatever_its_cover(self):
        self.assertEqual(pixel(clear(0xFFFFFFFF, 1.0), marks([0.0, 0.0], 0x00030201))[0], [1, 2, 3, 0])

    def test_against_the_model(self):
        source = Source(23).random
        for _ in range(40):
            numbers = [source.choice((source.uniform(-2, 6), source.randint(-4, 12) / 2)) for _ in range(20)]
            same_as_model(self, init(5, 4), marks(numbers, source.getrandbits(32)), *rows(4))


if __name__ == "__main__":
    unittest.main()
