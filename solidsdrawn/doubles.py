"""Doubles, each kept as what it is times 2^1074: the smallest ones, too, are whole then."""

from solidsdrawn.floats import nearest_whole

UNIT_BITS = 1074


def double_from_whole(number):
    return number << UNIT_BITS


def whole_from_double(a):
    return nearest_whole(a, UNIT_BITS)
