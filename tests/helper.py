"""Calls as lists, singles as bits, and a reckoning of singles by Python's floats to compare with.

A product, sum or quotient of two singles, worked out as a double and then
rounded to a single, is the one that a single operation gives: a double has
more than twice a single's bits and two.
"""

import math
import random
import struct
from fractions import Fraction

from solidsdrawn.picture import answers

LIMIT = 2.0 ** 20
PLUS_INFINITY = 0x7F800000
MINUS_INFINITY = 0xFF800000
NOT_NUMBERS = (0x7FC00000, 0xFFC00000, 0x7F800001, 0xFFFFFFFF)
NOT_FINITE = (PLUS_INFINITY, MINUS_INFINITY) + NOT_NUMBERS
MINUS_ZERO = 0x80000000
ONE = 2 ** 149

IDENTITY = (1, 0, 0, 0, 0, 1, 0, 0, 0, 0, 1, 0, 0, 0, 0, 1)


def bits(number):
    return struct.unpack("<I", struct.pack("<f", number))[0]


def number_of(pattern):
    return struct.unpack("<f", struct.pack("<I", pattern))[0]


def single(number):
    return struct.unpack("<f", struct.pack("<f", number))[0]


def told(number):
    units = Fraction(number) * 2 ** 149
    assert units.denominator == 1
    return int(units)


def next_up(number):
    return number_of(bits(number) + 1)


def next_down(number):
    return number_of(bits(number) - 1)


def row(numbers):
    return [len(numbers)] + [bits(number) for number in numbers]


def init(w=4, h=3):
    return [0, w, h]


def clear(colour=0, depth=1.0):
    return [1, colour, bits(depth)]


def texture(k, log, given=None):
    if given is None:
        fits = 0 <= k <= 7 and 0 <= log <= 6
        given = [i % 256 for i in range(4 * 4 ** log)] if fits else []
    return [2, k, log, len(given)] + list(given)


def matrix(numbers=IDENTITY):
    return [3] + row(numbers)


def view(numbers=(0, 0, 1, 1)):
    return [4] + row(numbers)


def points(numbers, n=None):
    return [5, len(numbers) // 3 if n is None else n] + row(numbers)


def light(numbers):
    return [6] + row(numbers)


def normals(numbers, n=None):
    return [7, len(numbers) // 3 if n is None else n] + row(numbers)


def with_bits(call, place, pattern):
    """The call with the number at that place of its row put as bits; the row starts behind its count."""
    heads = {3: 2, 4: 2, 5: 3, 6: 2, 7: 3}
    changed = list(call)
    changed[heads[call[0]] + place] = pattern
    return changed


def split(numbers):
    """The list that is given back, as a list of answers."""
    found = []
    start = 0
    while start < len(numbers):
        end = start + 1 + numbers[start]
        assert numbers[start] >= 1 and end <= len(numbers)
        found.append(numbers[start + 1:end])
        start = end
    return found


def ask(*calls):
    return split(answers([number for call in calls for number in call]))


def last(*calls):
    return ask(*calls)[-1]


def near_row(m, i, p):
    total = single(single(m[4 * i] * p[0]) + single(m[4 * i + 1] * p[1]))
    total = single(total + single(m[4 * i + 2] * p[2]))
    return single(total + m[4 * i + 3])


def point_by_floats(m, v, p):
    """Four numbers, or None for a point that is behind."""
    x, y, z, w = [near_row(m, i, p) for i in range(4)]
    if w < 1 / 1024:
        return None
    r = single(1.0 / w)
    return [
        single(v[0] + single(single(x * r) * v[2])),
        single(v[1] + single(single(y * r) * v[3])),
        single(z * r),
        r,
    ]


def points_by_floats(m, v, numbers):
    moved = [point_by_floats(m, v, numbers[i:i + 3]) for i in range(0, len(numbers), 3)]
    expected = [sum(1 for point in moved if point is not None)]
    for point in moved:
        expected.extend([0] * 4 if point is None else [told(number) for number in point])
    return expected


def dot_by_floats(a, b):
    total = single(single(a[0] * b[0]) + single(a[1] * b[1]))
    return single(total + single(a[2] * b[2]))


def root_by_steps(n):
    """The greatest single whose square times n is at most 1: a float's guess, then single by single."""
    q = single(1.0 / math.sqrt(n))
    while Fraction(q) ** 2 * Fraction(n) > 1:
        q = next_down(q)
    while Fraction(next_up(q)) ** 2 * Fraction(n) <= 1:
        q = next_up(q)
    return q


def normal_by_floats(d, p):
    n = dot_by_floats(p, p)
    if n < 2.0 ** -20:
        return [0.0] * 4
    q = root_by_steps(n)
    unit = [single(number * q) for number in p]
    return unit + [max(0.0, min(dot_by_floats(unit, d), 1.0))]


def normals_by_floats(d, numbers):
    expected = [0]
    for i in range(0, len(numbers), 3):
        expected.extend(told(number) for number in normal_by_floats(d, numbers[i:i + 3]))
    return expected


class Source:
    """Singles of all sizes within a limit, the same ones at each run."""

    def __init__(self, seed):
        self.random = random.Random(seed)

    def number(self, limit, smallest=-30):
        size = math.ldexp(1 + self.random.getrandbits(23) / 2 ** 23, self.random.randint(smallest, 20))
        while size > limit:
            size = size / 2
        return -size if self.random.getrandbits(1) else size

    def numbers(self, count, limit, smallest=-30):
        return [self.number(limit, smallest) for _ in range(count)]
