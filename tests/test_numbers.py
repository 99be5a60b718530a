"""Points 1 and 3: singles, how they are rounded, what is refused; and point 2, colours."""

import unittest
from fractions import Fraction

from helper import (
    LIMIT, MINUS_ZERO, NOT_FINITE, ONE, bits, init, last, light, matrix, next_down, next_up, normals,
    number_of, points, single, told, view, with_bits, Source,
)
from solidsdrawn.colours import colour_from_number, mean_colour, mixed
from solidsdrawn.floats import cut_whole, is_finite, nearest_whole, steps_from_bits
from solidsdrawn.limits import Refused, single_within, whole_within
from solidsdrawn.singles import (
    kept_whole, plus, quotient, reciprocal, reciprocal_root, times, whole_root,
)

SMALLEST = 2.0 ** -149
SMALLEST_NORMAL = 2.0 ** -126


def single_from_bits(pattern):
    return steps_from_bits(pattern, 8, 23)


def product(a, b):
    """a times b, as points answers it: the view and W are 1 and add nothing."""
    m = [a, 0, 0, 0, 0, 0, 0, 0, 0, 0, 0, 0, 0, 0, 0, 1]
    return last(init(), matrix(m), points([b, 0, 0]))[1]


def total(a, b):
    """a + b, where a is moved through the matrix and b is the matrix's last in that row."""
    m = [1, 0, 0, b, 0, 0, 0, 0, 0, 0, 0, 0, 0, 0, 0, 1]
    return last(init(), matrix(m), points([a, 0, 0]))[1]


class SinglesFromBits(unittest.TestCase):
    def test_told_times_two_to_149(self):
        for number in (1.0, -1.0, 0.5, 3.25, -1048576.0, 2.0 ** 127, SMALLEST_NORMAL, next_down(SMALLEST_NORMAL)):
            self.assertEqual(single_from_bits(bits(number)), told(number))

    def test_written_patterns(self):
        self.assertEqual(single_from_bits(0x3F800000), 2 ** 149)
        self.assertEqual(single_from_bits(0xBF800000), -2 ** 149)
        self.assertEqual(single_from_bits(0x00000001), 1)
        self.assertEqual(single_from_bits(0x80000001), -1)
        self.assertEqual(single_from_bits(0x007FFFFF), 2 ** 23 - 1)
        self.assertEqual(single_from_bits(0x00800000), 2 ** 23)
        self.assertEqual(single_from_bits(0x01000000), 2 ** 24)
        self.assertEqual(single_from_bits(0x7F7FFFFF), (2 ** 24 - 1) * 2 ** 253)

    def test_both_zeros_are_0(self):
        self.assertEqual(single_from_bits(0), 0)
        self.assertEqual(single_from_bits(MINUS_ZERO), 0)

    def test_not_finite(self):
        for pattern in NOT_FINITE:
            self.assertFalse(is_finite(pattern, 8, 23))
        for pattern in (0, MINUS_ZERO, 1, 0x7F7FFFFF, 0xFF7FFFFF, 0x3F800000):
            self.assertTrue(is_finite(pattern, 8, 23))


class Answered(unittest.TestCase):
    def test_both_signs(self):
        self.assertEqual(last(init(), points([1.5, -2.25, -3])), [1, 3 * 2 ** 148, -9 * 2 ** 147, -3 * ONE, ONE])

    def test_both_zeros_are_told_as_0(self):
        call = with_bits(points([0, 0, 0]), 1, MINUS_ZERO)
        self.assertEqual(last(init(), call), [1, 0, 0, 0, ONE])

    def test_a_product_that_is_minus_zero_is_told_as_0(self):
        self.assertEqual(product(-1.0, 0.0), 0)
        self.assertEqual(product(-SMALLEST, 0.25), 0)

    def test_the_smallest_ones(self):
        call = points([SMALLEST, -SMALLEST, next_down(SMALLEST_NORMAL)])
        self.assertEqual(last(init(), call), [1, 1, -1, 2 ** 23 - 1, ONE])


class Rounding(unittest.TestCase):
    def test_sums_halfway_go_to_the_even_one(self):
        self.assertEqual(total(1.0, 2.0 ** -24), ONE)
        self.assertEqual(total(1.0 + 2.0 ** -23, 2.0 ** -24), told(1.0 + 2.0 ** -22))
        self.assertEqual(total(-1.0, -2.0 ** -24), -ONE)
        self.assertEqual(total(-1.0 - 2.0 ** -23, -2.0 ** -24), told(-1.0 - 2.0 ** -22))

    def test_sums_off_halfway_go_to_the_nearest(self):
        self.assertEqual(total(1.0, next_up(2.0 ** -24)), told(1.0 + 2.0 ** -23))
        self.assertEqual(total(1.0 + 2.0 ** -23, next_down(2.0 ** -24)), told(1.0 + 2.0 ** -23))
        self.assertEqual(total(-1.0, -next_up(2.0 ** -24)), told(-1.0 - 2.0 ** -23))

    def test_a_sum_carried_into_the_next_power(self):
        self.assertEqual(total(next_down(2.0), 2.0 ** -24), told(2.0))

    def test_products_halfway_go_to_the_even_one(self):
        self.assertEqual(product(1.0 + 2.0 ** -12, 1.0 + 2.0 ** -12), told(1.0 + 2.0 ** -11))
        self.assertEqual(product(1.0 + 2.0 ** -23, 1.5), told(1.5 + 2.0 ** -22))
        self.assertEqual(product(-1.0 - 2.0 ** -23, 1.5), told(-1.5 - 2.0 ** -22))

    def test_products_below_the_smallest_normal(self):
        self.assertEqual(product(SMALLEST_NORMAL, 0.5), 2 ** 22)
        self.assertEqual(product(next_up(SMALLEST_NORMAL), 0.5), 2 ** 22)
        self.assertEqual(product(number_of(0x00800003), 0.5), 2 ** 22 + 2)
        self.assertEqual(product(-number_of(0x00800003), 0.5), -2 ** 22 - 2)
        self.assertEqual(product(next_down(SMALLEST_NORMAL), 0.5), 2 ** 22)

    def test_products_about_the_smallest_single(self):
        self.assertEqual(product(SMALLEST, 0.5), 0)
        self.assertEqual(product(SMALLEST, next_up(0.5)), 1)
        self.assertEqual(product(3 * SMALLEST, 0.5), 2)
        self.assertEqual(product(-3 * SMALLEST, 0.5), -2)
        self.assertEqual(product(SMALLEST, next_down(0.5)), 0)
        self.assertEqual(product(SMALLEST_NORMAL, SMALLEST_NORMAL), 0)

    def test_each_operation_is_rounded_by_itself(self):
        # Rounded once at the end, the three terms would add up to 1 + 2^-23.
        m = [1, 2.0 ** -24, 2.0 ** -24, 0] + [0] * 11 + [1]
        self.assertEqual(last(init(), matrix(m), points([1, 1, 1]))[1], ONE)

    def test_against_floats(self):
        source = Source(1)
        for _ in range(3000):
            a = single(source.number(LIMIT, -140))
            b = single(source.number(LIMIT, -140))
            self.assertEqual(plus(told(a), told(b)), told(single(a + b)))
            self.assertEqual(times(told(a), told(b)), told(single(a * b)))

    def test_sums_of_like_size_against_floats(self):
        source = Source(2)
        for _ in range(3000):
            a = source.number(4.0, 0)
            b = source.number(4.0, -26)
            self.assertEqual(plus(told(a), told(b)), told(single(a + b)))

    def test_quotients(self):
        self.assertEqual(quotient(told(1.0), told(3.0)), told(single(1 / 3)))
        self.assertEqual(quotient(told(-2.0), told(3.0)), told(single(-2 / 3)))
        self.assertEqual(quotient(1, told(2.0)), 0)
        self.assertEqual(quotient(3, told(2.0)), 2)
        self.assertEqual(quotient(5, told(2.0)), 2)
        self.assertEqual(quotient(7, told(2.0)), 4)
        self.assertEqual(quotient(-5, told(2.0)), -2)
        self.assertEqual(quotient(-7, told(2.0)), -4)
        self.assertEqual(quotient(0, told(7.0)), 0)

    def test_quotients_that_are_small(self):
        # Just off a half of the smallest step: 5/2 and 7/2 of it, and a little more or less.
        for units, by, expected in (
            (5, next_down(2.0), 3), (5, next_up(2.0), 2), (7, next_down(2.0), 4), (7, next_up(2.0), 3),
            (-5, next_down(2.0), -3), (-5, next_up(2.0), -2), (1, next_down(2.0), 1), (1, next_up(2.0), 0),
        ):
            self.assertEqual(quotient(units, told(by)), expected, (units, by))
        source = Source(10)
        for _ in range(1000):
            units = source.random.randint(-2 ** 24, 2 ** 24)
            by = abs(source.number(2.0 ** 10, 0))
            exact = Fraction(units) / Fraction(by)
            found = quotient(units, told(by))
            self.assertEqual(found, round(exact))

    def test_quotients_against_floats(self):
        # Of whole numbers, too: their unit is 1.
        self.assertEqual(quotient(1, 3), told(single(1 / 3)))
        self.assertEqual(quotient(768, 1024), told(0.75))
        source = Source(9)
        for _ in range(1000):
            a = source.number(LIMIT, -100)
            b = abs(source.number(LIMIT, -20))
            self.assertEqual(quotient(told(a), told(b)), told(single(a / b)))

    def test_whole_numbers_made_singles(self):
        for number in (0, 1, 5, 2 ** 24 - 1, 2 ** 24, 2 ** 24 + 2, -(2 ** 24), 2 ** 28):
            self.assertEqual(kept_whole(number), number)
        self.assertEqual(kept_whole(2 ** 24 + 1), 2 ** 24)
        self.assertEqual(kept_whole(2 ** 24 + 3), 2 ** 24 + 4)
        self.assertEqual(kept_whole(2 ** 25 + 5), 2 ** 25 + 4)
        self.assertEqual(kept_whole(2 ** 25 + 6), 2 ** 25 + 8)
        self.assertEqual(kept_whole(2 ** 25 + 7), 2 ** 25 + 8)


class Wholes(unittest.TestCase):
    def test_the_nearest_of_two_the_even_one(self):
        for eighths, expected in (
            (0, 0), (3, 0), (4, 0), (5, 1), (8, 1), (11, 1), (12, 2), (13, 2), (20, 2), (21, 3), (28, 4),
            (-3, 0), (-4, 0), (-5, -1), (-11, -1), (-12, -2), (-13, -2), (-20, -2), (-21, -3), (-28, -4),
        ):
            self.assertEqual(nearest_whole(eighths, 3), expected, eighths)
        for halves in range(-9, 10):
            self.assertEqual(nearest_whole(halves, 1), round(halves / 2))

    def test_cut_towards_0(self):
        for eighths, expected in ((0, 0), (7, 0), (8, 1), (15, 1), (16, 2), (-7, 0), (-8, -1), (-15, -1), (-16, -2)):
            self.assertEqual(cut_whole(eighths, 3), expected, eighths)


class Roots(unittest.TestCase):
    def test_whole_root(self):
        for number in list(range(1, 300)) + [10 ** 40, 10 ** 40 - 1, 2 ** 300 + 1]:
            root = whole_root(number)
            self.assertLessEqual(root * root, number)
            self.assertGreater((root + 1) * (root + 1), number)

    def test_exact_ones(self):
        self.assertEqual(reciprocal(told(4.0)), told(0.25))
        self.assertEqual(reciprocal_root(told(4.0)), told(0.5))
        self.assertEqual(reciprocal_root(told(2.0 ** -20)), told(1024.0))


class Refusals(unittest.TestCase):
    def test_whole_numbers(self):
        self.assertEqual(whole_within(1, 1, 3), 1)
        self.assertEqual(whole_within(3, 1, 3), 3)
        for number in (0, 4, -2147483648, 2147483647):
            self.assertRaises(Refused, whole_within, number, 1, 3)

    def test_singles(self):
        for number in (8.0, -8.0, 0.0, SMALLEST):
            self.assertEqual(single_within(bits(number), 8), told(number))
        for number in (next_up(8.0), -next_up(8.0), 2.0 ** 127):
            self.assertRaises(Refused, single_within, bits(number), 8)

    def test_not_finite_in_each_call(self):
        calls = (matrix(), view(), points([1, 2, 3]), light([0, 0, 0]), normals([1, 2, 3]))
        for call in calls:
            self.assertNotEqual(last(init(), call), [-1])
            for pattern in NOT_FINITE:
                for place in range(3):
                    self.assertEqual(last(init(), with_bits(call, place, pattern)), [-1])

    def test_a_depth_that_is_not_finite(self):
        for pattern in NOT_FINITE:
            self.assertEqual(last(init(), [1, 0, pattern]), [-1])


class Colours(unittest.TestCase):
    def test_blue_has_the_lowest_bits(self):
        self.assertEqual(colour_from_number(0x04030201), (1, 2, 3, 4))
        self.assertEqual(colour_from_number(0), (0, 0, 0, 0))
        self.assertEqual(colour_from_number(4294967295), (255, 255, 255, 255))
        self.assertEqual(colour_from_number(0xFF000080), (128, 0, 0, 255))

    def test_mixed_is_rounded_down(self):
        for x, y, k, expected in (
            (0, 255, 0, 0), (0, 255, 128, 255), (0, 255, 64, 127), (255, 0, 64, 127), (255, 0, 0, 255),
            (255, 0, 128, 0),
            (0, 1, 127, 0), (1, 0, 1, 0), (10, 10, 77, 10), (100, 101, 64, 100), (101, 100, 64, 100),
        ):
            self.assertEqual(mixed(x, y, k), expected, (x, y, k))

    def test_the_mean_is_rounded_up_at_a_half(self):
        self.assertEqual(mean_colour((0, 1, 254, 3), (0, 0, 255, 5)), (0, 1, 255, 4))
        self.assertEqual(mean_colour((255, 0, 9, 1), (255, 255, 8, 2)), (255, 128, 9, 2))


if __name__ == "__main__":
    unittest.main()
