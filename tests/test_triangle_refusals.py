"""Points 3 and 17: what a triangle refuses, and that it changes nothing then."""

import unittest

from helper import (
    LIMIT, MINUS_ZERO, NOT_FINITE, ONE, all_depths, ask, bits, clear, corner, flat, init, last, next_down, next_up,
    rows,
    sprite, texture, triangle, with_bits,
)

WHITE = texture(0, 0, [255, 255, 255, 255])
CORNERS = [corner(0, 0), corner(2, 0), corner(0, 1)]
NAMES = ("x", "y", "z", "r", "u", "v", "l")
GOOD = {
    "x": (-500.0, 500.0), "y": (-500.0, 500.0), "z": (-LIMIT, LIMIT), "r": (1 / LIMIT, LIMIT),
    "u": (-1024.0, 1024.0), "v": (-1024.0, 1024.0), "l": (0.0, 1.0),
}
PAST = {
    "x": (-next_up(500.0), next_up(500.0)), "y": (-next_up(500.0), next_up(500.0)),
    "z": (-next_up(LIMIT), next_up(LIMIT)), "r": (next_down(1 / LIMIT), next_up(LIMIT), 0.0, -1.0),
    "u": (-next_up(1024.0), next_up(1024.0)), "v": (-next_up(1024.0), next_up(1024.0)),
    "l": (-2.0 ** -149, next_up(1.0), -1.0),
}


def with_number(which, name, number):
    return with_bits(triangle(CORNERS), 7 * which + NAMES.index(name), bits(number))


class Wholes(unittest.TestCase):
    def test_k_at_the_edges(self):
        textures = [texture(k, 0) for k in range(8)]
        for k, expected in ((-1, [-1]), (0, [1]), (7, [1]), (8, [-1]), (-2147483648, [-1]), (2147483647, [-1])):
            self.assertEqual(last(init(1, 1), *textures, flat(k=k)), expected)

    def test_how_at_the_edges(self):
        for how in range(8):
            self.assertEqual(last(init(1, 1), WHITE, flat(how=how)), [1])
        for how in (-1, 8, -2147483648, 2147483647):
            self.assertEqual(last(init(1, 1), WHITE, flat(how=how)), [-1])

    def test_without_the_texture(self):
        for k in range(8):
            textures = [texture(other, 0) for other in range(8) if other != k]
            self.assertEqual(last(init(1, 1), *textures, flat(k=k)), [-2])

    def test_without_the_texture_where_nothing_is_drawn(self):
        self.assertEqual(last(init(1, 1), triangle([corner(0, 0)] * 3)), [-2])
        self.assertEqual(last(init(1, 1), triangle([CORNERS[0], CORNERS[2], CORNERS[1]], how=4)), [-2])
        self.assertEqual(last(init(1, 1), triangle([corner(x + 300, y) for x, y in ((0, 0), (2, 0), (0, 1))])), [-2])

    def test_the_first_refusal_ahead_of_the_second(self):
        for call in (
            flat(k=-1), flat(k=8), flat(how=-1), flat(how=8), with_number(2, "l", 2.0), with_number(0, "x", 501.0),
        ):
            self.assertEqual(last(init(1, 1), call), [-1])


class Numbers(unittest.TestCase):
    def test_at_the_edges(self):
        for which in range(3):
            for name, numbers in GOOD.items():
                for number in numbers:
                    answer = last(init(1, 1), WHITE, with_number(which, name, number))
                    self.assertIn(answer, ([0], [1]), (which, name, number))

    def test_past_the_edges(self):
        for which in range(3):
            for name, numbers in PAST.items():
                for number in numbers + (2.0 ** 127, -2.0 ** 127):
                    answer = last(init(1, 1), WHITE, with_number(which, name, number))
                    self.assertEqual(answer, [-1], (which, name, number))

    def test_not_finite(self):
        for place in range(21):
            for pattern in NOT_FINITE:
                self.assertEqual(last(init(1, 1), WHITE, with_bits(flat(), place, pattern)), [-1])
                self.assertEqual(last(init(1, 1), with_bits(flat(), place, pattern)), [-1])

    def test_both_zeros(self):
        for place in range(21):
            answer = last(init(1, 1), WHITE, with_bits(flat(), place, MINUS_ZERO))
            if NAMES[place % 7] == "r":
                self.assertEqual(answer, [-1])
            else:
                self.assertIn(answer, ([0], [1]))

    def test_all_at_their_ends_at_once(self):
        for end in (0, 1):
            numbers = [GOOD[name][end] for name in NAMES]
            corners = [[-500.0, -500.0] + numbers[2:], [500.0, -500.0] + numbers[2:], [0.0, 500.0] + numbers[2:]]
            self.assertEqual(last(init(1, 1), WHITE, triangle(corners)), [1 if end == 0 else 0])

    def test_also_where_nothing_is_drawn(self):
        wrong = [corner(0, 0), corner(0, 0), corner(0, 0, l=1.5)]
        self.assertEqual(last(init(1, 1), WHITE, triangle(wrong)), [-1])
        wrong = [corner(0, 0), corner(0, 1), corner(2, 0, z=2 * LIMIT)]
        self.assertEqual(last(init(1, 1), WHITE, triangle(wrong, how=4)), [-1])


class NothingChanged(unittest.TestCase):
    def test_colours_and_depths_are_as_they_were(self):
        refused = [flat(k=8), flat(how=8), flat(how=-1), flat(k=1)]
        refused += [with_number(which, name, PAST[name][0]) for which in range(3) for name in NAMES]
        refused += [with_bits(flat(), 20, 0x7F800000)]
        told_behind = ask(
            init(2, 2), clear(0x04030201, 0.5), WHITE, *refused, *rows(2), *all_depths(2, 2), sprite(x=1, y=1))
        expected = [[-1] if call[1] != 1 else [-2] for call in refused]
        expected += [[2] + [1, 2, 3, 4] * 2] * 2 + [[0, ONE // 2]] * 4 + [[1]]
        self.assertEqual(told_behind[3:], expected)


if __name__ == "__main__":
    unittest.main()
