"""Singles, each kept as the whole number that it is times 2^149.

Every finite single is whole in that unit, the smallest ones too, and it is
the form in which a single is answered. Both zeros are 0: nothing that is
worked out or answered tells them apart.
"""

UNIT_BITS = 149
FRACTION_BITS = 23
EXPONENT_MASK = 255
FRACTION_MASK = 8388607


def exponent_bits(bits):
    return (bits >> FRACTION_BITS) & EXPONENT_MASK


def is_finite(bits):
    return exponent_bits(bits) != EXPONENT_MASK


def single_from_bits(bits):
    exponent = exponent_bits(bits)
    size = bits & FRACTION_MASK
    if exponent > 0:
        size = (size + FRACTION_MASK + 1) << (exponent - 1)
    return size if bits >> 31 == 0 else -size


def power_of_two(exponent):
    return 1 << (UNIT_BITS + exponent)


def spare_bits(size):
    return max(size.bit_length() - FRACTION_BITS - 1, 0)


# The single nearest to top / bottom units, of two the even one; bottom is
# above 0. There is no look at the greatest single, as the ranges of the calls
# keep every result far below it.
def nearest_single(top, bottom):
    size = abs(top)
    spare = spare_bits(size // bottom)
    step = bottom << spare
    kept = size // step
    rest = 2 * (size % step)
    if rest > step or (rest == step and kept % 2 == 1):
        kept = kept + 1
    single = kept << spare
    return single if top >= 0 else -single


def plus(a, b):
    return nearest_single(a + b, 1)


def times(a, b):
    return nearest_single(a * b, 1 << UNIT_BITS)


def reciprocal(a):
    return nearest_single(1 << (2 * UNIT_BITS), a)


# Products first, then (one + two) + three: rows of a matrix, lengths and light
# are all worked out in this order.
def three_products(a, b):
    total = plus(times(a[0], b[0]), times(a[1], b[1]))
    return plus(total, times(a[2], b[2]))


# The greatest whole number whose square is at most the given one: the guesses
# come down from above and stop where they would no longer fall.
def whole_root(number):
    guess = 1 << ((number.bit_length() + 1) // 2)
    lower = (guess + number // guess) // 2
    while lower < guess:
        guess = lower
        lower = (guess + number // guess) // 2
    return guess


# The greatest single whose square times a, exactly, is at most 1; a is above 0.
# Three units are multiplied there, and bits are cut as rounding could go above.
def reciprocal_root(a):
    size = whole_root((1 << (3 * UNIT_BITS)) // a)
    spare = spare_bits(size)
    return (size >> spare) << spare
