"""Singles, worked out in whole numbers: each is kept as what it is times 2^149.

Every finite single is whole in that unit, the smallest ones too, and it is
the form in which a single is answered.
"""

from solidsdrawn.floats import cut_whole, nearest_whole

UNIT_BITS = 149
KEPT_BITS = 24


def power_of_two(exponent):
    return 1 << (UNIT_BITS + exponent)


# The three operations below round to the nearest single, of two the even one.
# There is no look at the greatest single, as the ranges of the calls keep every
# result far below it.
def plus(a, b):
    total = a + b
    spare = total.bit_length() - KEPT_BITS
    if spare <= 0:
        return total
    return nearest_whole(total, spare) << spare


# A product has the unit twice: one of them goes at least, and with it all that
# is smaller than the smallest single.
def times(a, b):
    product = a * b
    spare = product.bit_length() - KEPT_BITS
    if spare < UNIT_BITS:
        spare = UNIT_BITS
    return nearest_whole(product, spare) << (spare - UNIT_BITS)


# Both numbers may be in any one unit; b is above 0. Two bits more than a single
# has are worked out, and the last one of these stands for all that is left
# over: it tells a half from a little more.
def quotient(a, b):
    parts = divmod(a << (UNIT_BITS + 2), b)
    number = parts[0] if parts[1] == 0 else parts[0] | 1
    spare = number.bit_length() - KEPT_BITS
    if spare < 2:
        spare = 2
    return nearest_whole(number, spare) << (spare - 2)


# A plain whole number with as many bits as a single keeps; its unit is 1.
def kept_whole(number):
    return plus(number, 0)


def reciprocal(a):
    return quotient(power_of_two(0), a)


# Products first, then (one + two) + three: rows of a matrix, lengths, light
# and the blends of a triangle are all worked out in this order.
def three_products(a, b):
    total = plus(times(a[0], b[0]), times(a[1], b[1]))
    return plus(total, times(a[2], b[2]))


def whole_from_single(a):
    return nearest_whole(a, UNIT_BITS)


def cut_from_single(a):
    return cut_whole(a, UNIT_BITS)


# The greatest whole number whose square is at most the given one: the guesses
# come down from above and stop where they would no longer fall.
def whole_root(number):
    guess = 1 << ((number.bit_length() + 1) // 2)
    lower = (guess + number // guess) // 2
    while lower < guess:
        guess = lower
        lower = (guess + number // guess) // 2
    return guess


# The greatest single whose square times a, exactly, is at most 1; a is above 0.
# Three units are multiplied there, and bits are cut as rounding could go above.
def reciprocal_root(a):
    size = whole_root((1 << (3 * UNIT_BITS)) // a)
    spare = max(size.bit_length() - KEPT_BITS, 0)
    return (size >> spare) << spare
