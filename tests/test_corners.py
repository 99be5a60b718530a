"""Points 12 to 16: the rows of a matrix, points and normals."""

import unittest
from fractions import Fraction

from helper import (
    LIMIT, MINUS_ZERO, ONE, Source, ask, dot_by_floats, init, last, light, matrix, next_down, next_up, normals,
    normals_by_floats, points, points_by_floats, told, view, with_bits,
)

FAR_OFF = (-2147483648, -1, 257, 2147483647)
FARTHER = next_up(LIMIT)
LONGER = next_up(1024.0)


def with_w(w):
    """The point (1, 2, 3) moved to X, Y, Z = 1, 2, 3 and this W."""
    return last(init(), matrix([1, 0, 0, 0, 0, 1, 0, 0, 0, 0, 1, 0, 0, 0, 0, w]), points([1, 2, 3]))


def exact(units):
    return Fraction(units, 2 ** 149)


class Rows(unittest.TestCase):
    def test_which_number_stands_where(self):
        m = [1, 2, 3, 4, 5, 6, 7, 8, 9, 10, 11, 12, 0, 0, 0, 1]
        expected = [1, told(1 * 100 + 2 * 10 + 3 + 4), told(5 * 100 + 6 * 10 + 7 + 8), told(900 + 100 + 11 + 12), ONE]
        self.assertEqual(last(init(), matrix(m), points([100, 10, 1])), expected)

    def test_w_is_the_last_row(self):
        m = [1, 0, 0, 0, 0, 1, 0, 0, 0, 0, 1, 0, 0.5, 0.25, 2, 0.5]
        self.assertEqual(last(init(), matrix(m), points([2, 4, 0.75])), [1, told(0.5), ONE, told(0.1875), told(0.25)])

    def test_the_order_of_the_sums(self):
        tiny = 2.0 ** -24
        for numbers, expected in (
            ([1, tiny, tiny, 0], 1.0),
            ([tiny, tiny, 1, 0], 1.0 + 2.0 ** -23),
            ([tiny, 1, tiny, 0], 1.0),
            ([tiny, tiny, 0, 1], 1.0 + 2.0 ** -23),
            ([0, tiny, tiny, 1], 1.0 + 2.0 ** -23),
            ([1, 0, tiny, tiny], 1.0),
            ([LIMIT, 2.0 ** -10, -LIMIT, 2.0 ** -10], 2.0 ** -10),
        ):
            m = numbers + numbers + numbers + [0, 0, 0, 1]
            self.assertEqual(last(init(), matrix(m), points([1, 1, 1])), [1] + [told(expected)] * 3 + [ONE])


class Points(unittest.TestCase):
    def test_ordinary_ones(self):
        m = [1, 0, 0, 0, 0, 1, 0, 0, 0, 0, 1, 0, 0, 0, 1, 0]
        told_behind = last(init(), matrix(m), view([100, 50, 10, -20]), points([1, 2, 4, -6, 3, 2]))
        expected = [2, told(102.5), told(40.0), ONE, told(0.25), told(70.0), told(20.0), ONE, told(0.5)]
        self.assertEqual(told_behind, expected)

    def test_n_at_the_edges(self):
        self.assertEqual(last(init(), points([])), [0])
        self.assertEqual(last(init(), points([1, 2, 3] * 256)), [256] + [ONE, 2 * ONE, 3 * ONE, ONE] * 256)
        for n in FAR_OFF:
            self.assertEqual(last(init(), points([], n)), [-1])

    def test_numbers_at_the_edges(self):
        for place in range(3):
            for number in (LIMIT, -LIMIT):
                numbers = [0, 0, 0]
                numbers[place] = number
                expected = [1] + [told(one) for one in numbers] + [ONE]
                self.assertEqual(last(init(), points(numbers)), expected)

    def test_numbers_past_the_edges(self):
        for place in range(6):
            for number in (FARTHER, -FARTHER, 2.0 ** 127):
                numbers = [0] * 6
                numbers[place] = number
                self.assertEqual(last(init(), points(numbers)), [-1])

    def test_w_at_its_edge(self):
        edge = 2.0 ** -10
        self.assertEqual(with_w(next_down(edge)), [0, 0, 0, 0, 0])
        self.assertEqual(with_w(edge), [1, told(1024.0), told(2048.0), told(3072.0), told(1024.0)])
        self.assertEqual(with_w(next_up(edge))[0], 1)

    def test_w_below_its_edge(self):
        for w in (0.0, 2.0 ** -149, -2.0 ** -149, -1.0, -2.0 ** -10, -LIMIT):
            self.assertEqual(with_w(w), [0, 0, 0, 0, 0])
        call = with_bits(matrix(), 15, MINUS_ZERO)
        self.assertEqual(last(init(), call, points([1, 2, 3])), [0, 0, 0, 0, 0])

    def test_only_those_that_are_not_behind_are_counted(self):
        m = [1, 0, 0, 0, 0, 1, 0, 0, 0, 0, 1, 0, 0, 0, 1, 0]
        told_behind = last(init(), matrix(m), points([1, 1, -1, 1, 1, 1, 1, 1, 0, 2, 2, 2]))
        self.assertEqual(told_behind, [2] + [0] * 4 + [ONE] * 4 + [0] * 4 + [ONE, ONE, ONE, ONE // 2])

    def test_one_behind_has_four_zeros_whatever_the_view(self):
        told_behind = last(init(), matrix([0] * 16), view([5, 6, 7, 8]), points([1, 2, 3]))
        self.assertEqual(told_behind, [0, 0, 0, 0, 0])

    def test_r_is_the_nearest_single(self):
        source = Source(3)
        numbers = [3.0, 7.0, 10.0, 1.0 / 1024, next_up(1.0), next_down(2.0), 1e6, LIMIT]
        for w in numbers + [abs(source.number(LIMIT, -9)) for _ in range(200)]:
            r = with_w(w)[4]
            off = abs(exact(r) * Fraction(w) - 1)
            step = 2 ** (r.bit_length() - 24)
            self.assertEqual(r % step, 0)
            for other in (r - step, r + step):
                self.assertLessEqual(off, abs(exact(other) * Fraction(w) - 1))

    def test_written_reciprocals(self):
        # 1/3 is rounded up, 1/5 too, 1/7 and 1/10: from their well-known patterns.
        for w, pattern in ((3.0, 0x3EAAAAAB), (5.0, 0x3E4CCCCD), (7.0, 0x3E124925), (10.0, 0x3DCCCCCD)):
            size = (pattern & 0x7FFFFF) + 0x800000
            self.assertEqual(with_w(w)[4], size << ((pattern >> 23) - 1))

    def test_x_goes_by_r_first_and_by_the_view_then(self):
        source = Source(4)
        for _ in range(100):
            m = [0] * 16
            m[0], m[5], m[10], m[15] = [abs(number) for number in source.numbers(4, LIMIT, -5)]
            v = source.numbers(4, LIMIT, -5)
            p = source.numbers(3, LIMIT, -5)
            self.assertEqual(last(init(), matrix(m), view(v), points(p)), points_by_floats(m, v, p))

    def test_against_floats(self):
        source = Source(5)
        for smallest in (-3, -30, -120):
            for _ in range(25):
                m = source.numbers(16, LIMIT, smallest)
                v = source.numbers(4, LIMIT, smallest)
                p = source.numbers(3 * 20, LIMIT, smallest)
                self.assertEqual(last(init(), matrix(m), view(v), points(p)), points_by_floats(m, v, p))

    def test_all_at_the_limit(self):
        for sign in (1, -1):
            m = [sign * LIMIT] * 12 + [LIMIT] * 4
            v = [sign * LIMIT] * 4
            self.assertEqual(
                last(init(), matrix(m), view(v), points([LIMIT] * 3)), points_by_floats(m, v, [LIMIT] * 3))

    def test_a_refused_one_changes_nothing(self):
        told_behind = ask(init(), points([1, 2, 3]), points([], 257), points([FARTHER, 0, 0]), points([1, 2, 3]))
        self.assertEqual(told_behind[2:4], [[-1], [-1]])
        self.assertEqual(told_behind[1], told_behind[4])


class Normals(unittest.TestCase):
    def test_ordinary_ones(self):
        told_behind = last(init(), light([0.5, 0, 1]), normals([2, 0, 0, 0, 0, 4, 0, -8, 0]))
        expected = [0, ONE, 0, 0, ONE // 2, 0, 0, ONE, ONE, 0, -ONE, 0, 0]
        self.assertEqual(told_behind, expected)

    def test_n_at_the_edges(self):
        self.assertEqual(last(init(), normals([])), [0])
        self.assertEqual(last(init(), normals([0, 2, 0] * 256)), [0] + [0, ONE, 0, 0] * 256)
        for n in FAR_OFF:
            self.assertEqual(last(init(), normals([], n)), [-1])

    def test_numbers_at_the_edges(self):
        for place in range(3):
            for number in (1024.0, -1024.0):
                numbers = [0, 0, 0]
                numbers[place] = number
                expected = [0] + [told(one / 1024) for one in numbers] + [0]
                self.assertEqual(last(init(), normals(numbers)), expected)

    def test_numbers_past_the_edges(self):
        for place in range(6):
            for number in (LONGER, -LONGER, LIMIT):
                numbers = [1] * 6
                numbers[place] = number
                self.assertEqual(last(init(), normals(numbers)), [-1])

    def test_n_squared_at_its_edge(self):
        edge = 2.0 ** -10
        for place in range(3):
            for sign in (1, -1):
                below = [0, 0, 0]
                below[place] = sign * next_down(edge)
                self.assertEqual(last(init(), light([1, 1, 1]), normals(below)), [0, 0, 0, 0, 0])
                at = [0, 0, 0]
                at[place] = sign * edge
                expected = [0, 0, 0, 0, ONE if sign > 0 else 0]
                expected[1 + place] = sign * ONE
                self.assertEqual(last(init(), light([1, 1, 1]), normals(at)), expected)

    def test_the_sum_at_its_edge(self):
        # The first square is 2^-20 - 2^-43, and the others add 2^-44 each: just below the edge, then at it.
        below = [next_down(2.0 ** -10), 2.0 ** -22, 0]
        self.assertEqual(last(init(), light([1, 1, 1]), normals(below)), [0, 0, 0, 0, 0])
        at = [next_down(2.0 ** -10), 2.0 ** -22, 2.0 ** -22]
        expected = [0, told(next_down(1.0)), told(2.0 ** -12), told(2.0 ** -12), 0]
        self.assertEqual(last(init(), normals(at)), expected)

    def test_zero_and_the_smallest(self):
        call = with_bits(normals([0, 0, 0, 2.0 ** -149, -2.0 ** -149, 2.0 ** -126]), 0, MINUS_ZERO)
        self.assertEqual(last(init(), light([1, 1, 1]), call), [0] * 9)

    def test_q_is_the_greatest_that_fits(self):
        # x is a power of two, so x q tells q; y and z make N what it is.
        source = Source(6)
        for _ in range(300):
            x = 2.0 ** source.random.randint(-8, 9)
            p = [x, source.number(2 * x), 0]
            n = Fraction(dot_by_floats(p, p))
            scaled = last(init(), normals(p))[1]
            q = exact(scaled) / Fraction(x)
            step = exact(2 ** (scaled.bit_length() - 24)) / Fraction(x)
            self.assertLessEqual(q * q * n, 1)
            self.assertGreater((q + step) * (q + step) * n, 1)

    def test_q_where_the_nearest_is_too_great(self):
        # 1 / sqrt(3) and 1 / sqrt(2) each lie between two singles; the lower one is asked for.
        for p, n in (([1, 1, 1], 3), ([1, 1, 0], 2), ([1, 2, 0], 5), ([1, 1, 2], 6), ([1, 2, 1.5], Fraction(29, 4))):
            q = last(init(), normals(p))[1]
            step = 2 ** (q.bit_length() - 24)
            self.assertLessEqual(exact(q) ** 2 * n, 1)
            self.assertGreater(exact(q + step) ** 2 * n, 1)
            self.assertEqual(q % step, 0)

    def test_q_that_fits_exactly(self):
        for number in (2.0 ** -10, 0.25, 1.0, 2.0, 1024.0):
            self.assertEqual(last(init(), normals([number, 0, 0])), [0, ONE, 0, 0, 0])
        for number in (3.0, 0.75, 5.0):
            self.assertEqual(
                last(init(), normals([number, 0, 0])), normals_by_floats([0, 0, 0], [number, 0, 0]))

    def test_the_light_is_brought_to_0_and_to_1(self):
        self.assertEqual(last(init(), light([1, 1, 1]), normals([1, 1, 1]))[4], ONE)
        self.assertEqual(last(init(), light([-1, -1, -1]), normals([1, 1, 1]))[4], 0)
        self.assertEqual(last(init(), light([1, 0, 0]), normals([2, 0, 0]))[4], ONE)
        self.assertEqual(last(init(), light([next_down(1.0), 0, 0]), normals([2, 0, 0]))[4], told(next_down(1.0)))
        self.assertEqual(last(init(), light([-2.0 ** -149, 0, 0]), normals([2, 0, 0]))[4], 0)
        self.assertEqual(last(init(), light([2.0 ** -149, 0, 0]), normals([2, 0, 0]))[4], 1)

    def test_the_light_goes_by_what_is_answered(self):
        for d in ([1, 0, 0], [0, 1, 0], [0, 0, 1]):
            told_behind = last(init(), light(d), normals([1, 2, 3]))
            self.assertEqual(told_behind[4], told_behind[1 + d.index(1)])

    def test_against_floats(self):
        source = Source(7)
        for smallest in (-3, -12, -60):
            for _ in range(25):
                d = source.numbers(3, 1.0, smallest)
                p = source.numbers(3 * 12, 1024.0, smallest)
                self.assertEqual(last(init(), light(d), normals(p)), normals_by_floats(d, p))

    def test_the_order_of_the_sums(self):
        source = Source(8)
        for _ in range(150):
            d = source.numbers(3, 1.0, -1)
            p = source.numbers(3, 1024.0, 8)
            self.assertEqual(last(init(), light(d), normals(p)), normals_by_floats(d, p))

    def test_the_matrix_and_the_view_do_not_matter(self):
        told_behind = last(init(), matrix([0] * 16), view([5, 6, 7, 8]), light([0, 1, 0]), normals([0, 2, 0]))
        self.assertEqual(told_behind, [0, 0, ONE, 0, ONE])

    def test_a_refused_one_changes_nothing(self):
        told_behind = ask(init(), light([0, 1, 0]), normals([], -1), normals([0, LONGER, 0]), normals([0, 2, 0]))
        self.assertEqual(told_behind[2:], [[-1], [-1], [0, 0, ONE, 0, ONE]])


if __name__ == "__main__":
    unittest.main()
