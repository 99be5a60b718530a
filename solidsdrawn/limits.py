"""The ranges of what is handed in: what lies outside is refused."""

from solidsdrawn.singles import is_finite, power_of_two, single_from_bits


class Refused(Exception):
    pass


def whole_within(number, low, high):
    if number < low or number > high:
        raise Refused()
    return number


def single_within(bits, limit):
    if not is_finite(bits):
        raise Refused()
    single = single_from_bits(bits)
    if abs(single) > limit * power_of_two(0):
        raise Refused()
    return single


def singles_within(row, limit):
    return [single_within(bits, limit) for bits in row]
