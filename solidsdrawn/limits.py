"""The ranges of what is handed in: what lies outside is refused."""

from solidsdrawn.doubles import double_from_whole
from solidsdrawn.floats import is_finite, steps_from_bits
from solidsdrawn.singles import power_of_two

SINGLE_EXPONENT_BITS = 8
SINGLE_FRACTION_BITS = 23
DOUBLE_EXPONENT_BITS = 11
DOUBLE_FRACTION_BITS = 52


class Refused(Exception):
    pass


class NoTexture(Exception):
    pass


def whole_within(number, low, high):
    if number < low or number > high:
        raise Refused()
    return number


# Here low and high are in the float's own smallest steps.
def float_between(bits, exponent_bits, fraction_bits, low, high):
    if not is_finite(bits, exponent_bits, fraction_bits):
        raise Refused()
    return whole_within(steps_from_bits(bits, exponent_bits, fraction_bits), low, high)


def single_between(bits, low, high):
    return float_between(bits, SINGLE_EXPONENT_BITS, SINGLE_FRACTION_BITS, low, high)


def single_within(bits, limit):
    edge = limit * power_of_two(0)
    return single_between(bits, -edge, edge)


def singles_within(row, limit):
    return [single_within(bits, limit) for bits in row]


def double_within(bits, limit):
    edge = double_from_whole(limit)
    return float_between(bits, DOUBLE_EXPONENT_BITS, DOUBLE_FRACTION_BITS, -edge, edge)
