"""Floats from their bits, singles and doubles alike, and whole numbers from them.

A finite float is kept as the whole number of the smallest steps of its form:
2^-149 is a single's, 2^-1074 a double's. Both zeros are 0: nothing that is
worked out or answered tells them apart.
"""


def exponent_of(bits, exponent_bits, fraction_bits):
    return (bits >> fraction_bits) & ((1 << exponent_bits) - 1)


def is_finite(bits, exponent_bits, fraction_bits):
    return exponent_of(bits, exponent_bits, fraction_bits) != (1 << exponent_bits) - 1


def steps_from_bits(bits, exponent_bits, fraction_bits):
    exponent = exponent_of(bits, exponent_bits, fraction_bits)
    size = bits & ((1 << fraction_bits) - 1)
    if exponent > 0:
        size = (size + (1 << fraction_bits)) << (exponent - 1)
    return size if bits >> (exponent_bits + fraction_bits) == 0 else -size


# The whole number nearest to number / 2^bits, of two the even one; bits is
# above 0. From a half on it goes up, but for a half that is exact and stands
# behind an even number.
def nearest_whole(number, bits):
    halves = number >> (bits - 1)
    if halves % 4 == 1 and halves << (bits - 1) == number:
        return halves >> 1
    return (halves + 1) >> 1


def cut_whole(number, bits):
    return number >> bits if number >= 0 else -(-number >> bits)
