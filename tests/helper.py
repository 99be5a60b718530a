"""Calls as lists, singles as bits, and a reckoning of singles by Python's floats to compare with.

A product, sum or quotient of two singles, worked out as a double and then
rounded to a single, is the one that a single operation gives: a double has
more than twice a single's bits and two.
"""

import math
import random
import struct
from fractions import Fraction

from solidsdrawn.picture import answers

LIMIT = 2.0 ** 20
PLUS_INFINITY = 0x7F800000
MINUS_INFINITY = 0xFF800000
NOT_NUMBERS = (0x7FC00000, 0xFFC00000, 0x7F800001, 0xFFFFFFFF)
NOT_FINITE = (PLUS_INFINITY, MINUS_INFINITY) + NOT_NUMBERS
MINUS_ZERO = 0x80000000
ONE = 2 ** 149

IDENTITY = (1, 0, 0, 0, 0, 1, 0, 0, 0, 0, 1, 0, 0, 0, 0, 1)


def bits(number):
    return struct.unpack("<I", struct.pack("<f", number))[0]


def double_bits(number):
    return struct.unpack("<Q", struct.pack("<d", number))[0]


def double_of(pattern):
    return struct.unpack("<d", struct.pack("<Q", pattern))[0]


def number_of(pattern):
    return struct.unpack("<f", struct.pack("<I", pattern))[0]


def single(number):
    return struct.unpack("<f", struct.pack("<f", number))[0]


def told(number):
    units = Fraction(number) * 2 ** 149
    assert units.denominator == 1
    return int(units)


def next_up(number):
    return number_of(bits(number) + 1)


def next_down(number):
    return number_of(bits(number) - 1)


def row(numbers):
    return [len(numbers)] + [bits(number) for number in numbers]


def init(w=4, h=3):
    return [0, w, h]


def clear(colour=0, depth=1.0):
    return [1, colour, bits(depth)]


def texture(k, log, given=None):
    if given is None:
        fits = 0 <= k <= 7 and 0 <= log <= 6
        given = [i % 256 for i in range(4 * 4 ** log)] if fits else []
    return [2, k, log, len(given)] + list(given)


def matrix(numbers=IDENTITY):
    return [3] + row(numbers)


def view(numbers=(0, 0, 1, 1)):
    return [4] + row(numbers)


def points(numbers, n=None):
    return [5, len(numbers) // 3 if n is None else n] + row(numbers)


def light(numbers):
    return [6] + row(numbers)


def normals(numbers, n=None):
    return [7, len(numbers) // 3 if n is None else n] + row(numbers)


def fog(colour=0, near=0.0, far=1.0):
    return [8, colour, bits(near), bits(far)]


def triangle(corners, k=0, how=0):
    """Three corners, each of x, y, z, r, u, v, l."""
    return [9, k, how] + row([number for corner in corners for number in corner])


def corner(x, y, z=0.0, r=1.0, u=0.0, v=0.0, l=1.0):
    return [x, y, z, r, u, v, l]


def flat(z=0.0, r=1.0, u=0.0, v=0.0, l=1.0, k=0, how=0):
    """A triangle in whose pixel (0, 0) the corners count for 1/4, 1/4 and 1/2: every blend there is the number itself,
    where it has a bit or two to spare."""
    return triangle([corner(x, y, z, r, u, v, l) for x, y in ((0, 0), (2, 0), (0, 1))], k, how)


def sprite(k=0, how=0, x=0, y=0, z=0.0):
    return [10, k, how, x, y, bits(z)]


def fade(colour=0, by=64):
    return [11, colour, by]


def soften():
    return [12]


def marks(numbers, colour=0xFFFFFFFF, n=None):
    places = [double_bits(number) for number in numbers]
    return [13, len(places) // 2 if n is None else n, colour, len(places)] + places


def read(y=0):
    return [14, y]


def depth(x=0, y=0):
    return [15, x, y]


def with_bits(call, place, pattern):
    """The call with the number at that place of its row put as bits; the row starts behind its count."""
    heads = {3: 2, 4: 2, 5: 3, 6: 2, 7: 3, 9: 4, 13: 4}
    changed = list(call)
    changed[heads[call[0]] + place] = pattern
    return changed


def split(numbers):
    """The list that is given back, as a list of answers."""
    found = []
    start = 0
    while start < len(numbers):
        end = start + 1 + numbers[start]
        assert numbers[start] >= 1 and end <= len(numbers)
        found.append(numbers[start + 1:end])
        start = end
    return found


def ask(*calls):
    return split(answers([number for call in calls for number in call]))


def last(*calls):
    return ask(*calls)[-1]


def pixel(*calls):
    """The colour's bytes and the depth of the one pixel of a picture of 1 by 1 behind those calls."""
    told_behind = ask(init(1, 1), *calls, read(0), depth(0, 0))
    return told_behind[-2][1:], told_behind[-1][1]


def rows(h):
    return [read(y) for y in range(h)]


def all_depths(w, h):
    return [depth(x, y) for y in range(h) for x in range(w)]


def same_as_model(case, *calls):
    """All of the calls' answers are the model's; gives back how many pixels triangles and sprites have drawn."""
    told_behind = ask(*calls)
    for call, answer, expected in zip(calls, told_behind, ask_model(*calls)):
        case.assertEqual(answer, expected, call)
    return sum(answer[0] for call, answer in zip(calls, told_behind) if call[0] in (9, 10) and answer[0] > 0)


def near_row(m, i, p):
    total = single(single(m[4 * i] * p[0]) + single(m[4 * i + 1] * p[1]))
    total = single(total + single(m[4 * i + 2] * p[2]))
    return single(total + m[4 * i + 3])


def point_by_floats(m, v, p):
    """Four numbers, or None for a point that is behind."""
    x, y, z, w = [near_row(m, i, p) for i in range(4)]
    if w < 1 / 1024:
        return None
    r = single(1.0 / w)
    return [
        single(v[0] + single(single(x * r) * v[2])),
        single(v[1] + single(single(y * r) * v[3])),
        single(z * r),
        r,
    ]


def points_by_floats(m, v, numbers):
    moved = [point_by_floats(m, v, numbers[i:i + 3]) for i in range(0, len(numbers), 3)]
    expected = [sum(1 for point in moved if point is not None)]
    for point in moved:
        expected.extend([0] * 4 if point is None else [told(number) for number in point])
    return expected


def dot_by_floats(a, b):
    total = single(single(a[0] * b[0]) + single(a[1] * b[1]))
    return single(total + single(a[2] * b[2]))


def root_by_steps(n):
    """The greatest single whose square times n is at most 1: a float's guess, then single by single."""
    q = single(1.0 / math.sqrt(n))
    while Fraction(q) ** 2 * Fraction(n) > 1:
        q = next_down(q)
    while Fraction(next_up(q)) ** 2 * Fraction(n) <= 1:
        q = next_up(q)
    return q


def normal_by_floats(d, p):
    n = dot_by_floats(p, p)
    if n < 2.0 ** -20:
        return [0.0] * 4
    q = root_by_steps(n)
    unit = [single(number * q) for number in p]
    return unit + [max(0.0, min(dot_by_floats(unit, d), 1.0))]


def normals_by_floats(d, numbers):
    expected = [0]
    for i in range(0, len(numbers), 3):
        expected.extend(told(number) for number in normal_by_floats(d, numbers[i:i + 3]))
    return expected


class Source:
    """Singles of all sizes within a limit, the same ones at each run."""

    def __init__(self, seed):
        self.random = random.Random(seed)

    def number(self, limit, smallest=-30):
        size = math.ldexp(1 + self.random.getrandbits(23) / 2 ** 23, self.random.randint(smallest, 20))
        while size > limit:
            size = size / 2
        return -size if self.random.getrandbits(1) else size

    def numbers(self, count, limit, smallest=-30):
        return [self.number(limit, smallest) for _ in range(count)]


def is_within(number, limit, low=None):
    """A float in its range; nothing that isn't finite is."""
    return math.isfinite(number) and (-limit if low is None else low) <= number <= limit


def colour_of(number):
    return [(number >> shift) & 255 for shift in (0, 8, 16, 24)]


def mix(x, y, k):
    return [int(Fraction(one * 128 + (two - one) * k, 128) // 1) for one, two in zip(x, y)]


def mean(x, y):
    return [(one + two + 1) // 2 for one, two in zip(x, y)]


def area_by_places(a, b, p):
    return (b[0] - a[0]) * (p[1] - a[1]) - (b[1] - a[1]) * (p[0] - a[0])


def is_on(a, b, p):
    """Whether p lies on that edge's side, or on the edge, and the edge is one of the triangle's own."""
    side = area_by_places(a, b, p)
    return side > 0 or side == 0 and (b[1] > a[1] or b[1] == a[1] and b[0] < a[0])


def covered(places, p):
    a, b, c = places
    return is_on(b, c, p) and is_on(c, a, p) and is_on(a, b, p)


def turned(corners):
    """The corners in the order in which the area isn't below 0, and their places."""
    places = [(round(16 * corner[0]), round(16 * corner[1])) for corner in corners]
    if area_by_places(*places) >= 0:
        return list(corners), places
    return [corners[i] for i in (0, 2, 1)], [places[i] for i in (0, 2, 1)]


def shares_by_floats(places, p):
    a, b, c = places
    area = single(float(area_by_places(a, b, c)))
    sides = (area_by_places(b, c, p), area_by_places(c, a, p), area_by_places(a, b, p))
    return [single(single(float(side)) / area) for side in sides]


class Model:
    """All the calls once more, by Python's floats and pixel by pixel, to compare the program with."""

    def __init__(self):
        self.start(1, 1)

    def start(self, w, h):
        self.w, self.h = w, h
        self.colours = {(i, j): [0] * 4 for j in range(h) for i in range(w)}
        self.depths = {place: 1.0 for place in self.colours}
        self.textures = {}
        self.fog = None
        self.matrix = [float(number) for number in IDENTITY]
        self.view = [0.0, 0.0, 1.0, 1.0]
        self.light = [0.0, 0.0, 0.0]

    def answer(self, call):
        names = "init clear texture matrix view points light normals fog triangle sprite fade soften marks read depth"
        return getattr(self, "on_" + names.split()[call[0]])(*call[1:])

    def on_init(self, w, h):
        if not (1 <= w <= 256 and 1 <= h <= 256):
            return [-1]
        self.start(w, h)
        return [0]

    def on_clear(self, colour, z):
        if not is_within(number_of(z), LIMIT):
            return [-1]
        for place in self.colours:
            self.colours[place] = colour_of(colour)
            self.depths[place] = number_of(z)
        return [0]

    def on_texture(self, k, log, count, *given):
        if not (0 <= k <= 7 and 0 <= log <= 6):
            return [-1]
        self.textures[k] = (log, given)
        return [0]

    def keep(self, name, given, limit):
        numbers = [number_of(pattern) for pattern in given]
        if not all(is_within(number, limit) for number in numbers):
            return [-1]
        setattr(self, name, numbers)
        return [0]

    def on_matrix(self, count, *given):
        return self.keep("matrix", given, LIMIT)

    def on_view(self, count, *given):
        return self.keep("view", given, LIMIT)

    def on_light(self, count, *given):
        return self.keep("light", given, 1.0)

    def on_points(self, n, count, *given):
        numbers = [number_of(pattern) for pattern in given]
        if not 0 <= n <= 256 or not all(is_within(number, LIMIT) for number in numbers):
            return [-1]
        return points_by_floats(self.matrix, self.view, numbers)

    def on_normals(self, n, count, *given):
        numbers = [number_of(pattern) for pattern in given]
        if not 0 <= n <= 256 or not all(is_within(number, 1024.0) for number in numbers):
            return [-1]
        return normals_by_floats(self.light, numbers)

    def on_fog(self, colour, near, far):
        near, far = number_of(near), number_of(far)
        if not is_within(near, LIMIT) or not is_within(far, LIMIT):
            return [-1]
        if Fraction(far) - Fraction(near) < Fraction(1, 1024):
            return [-1]
        self.fog = (colour_of(colour), far, single(128.0 / single(far - near)))
        return [0]

    def on_fade(self, colour, by):
        if not 0 <= by <= 128:
            return [-1]
        for place, old in list(self.colours.items()):
            self.colours[place] = mix(old, colour_of(colour), by)
        return [0]

    def on_soften(self):
        before = self.colours

        def at(x, y):
            return before[min(x, self.w - 1), min(y, self.h - 1)]

        self.colours = {
            (x, y): mean(mean(at(x, y), at(x + 1, y)), mean(at(x, y + 1), at(x + 1, y + 1))) for x, y in before}
        return [0]

    def on_marks(self, n, colour, count, *given):
        numbers = [double_of(pattern) for pattern in given]
        if not 0 <= n <= 256 or not all(is_within(number, LIMIT) for number in numbers):
            return [-1]
        wholes = [round(number) for number in numbers]
        inside = [place for place in zip(wholes[::2], wholes[1::2]) if place in self.colours]
        for place in inside:
            self.colours[place] = colour_of(colour)
        return [len(inside)]

    def on_read(self, y):
        if not 0 <= y < self.h:
            return [-1]
        return [self.w] + [byte for x in range(self.w) for byte in self.colours[x, y]]

    def on_depth(self, x, y):
        return [0, told(self.depths[x, y])] if (x, y) in self.depths else [-1]

    def draw(self, place, texel, z, how):
        """Whether it is drawn."""
        old = self.colours[place]
        if not z < self.depths[place] or how % 4 == 1 and texel[3] == 0:
            return False
        if how % 4 <= 1:
            self.colours[place] = texel
            self.depths[place] = z
        elif how % 4 == 2:
            self.colours[place] = mix(old, texel, (texel[3] + 1) // 2)
        else:
            self.colours[place] = [min(255, one + two) for one, two in zip(old, texel)]
        return True

    def texel(self, k, column, row_of_it):
        log, given = self.textures[k]
        first = 4 * ((row_of_it % 2 ** log) * 2 ** log + column % 2 ** log)
        return list(given[first:first + 4])

    def on_sprite(self, k, how, x, y, z):
        z = number_of(z)
        wholes = 0 <= k <= 7 and 0 <= how <= 3 and -256 <= x <= 255 and -256 <= y <= 255
        if not wholes or not is_within(z, LIMIT):
            return [-1]
        if k not in self.textures:
            return [-2]
        drawn = 0
        for i, j in self.colours:
            if 0 <= i - x < 2 ** self.textures[k][0] and 0 <= j - y < 2 ** self.textures[k][0]:
                drawn += self.draw((i, j), self.texel(k, i - x, j - y), z, how)
        return [drawn]

    def on_triangle(self, k, how, count, *given):
        corners = [[number_of(pattern) for pattern in given[i:i + 7]] for i in (0, 7, 14)]
        limits = (500.0, 500.0, LIMIT, LIMIT, 1024.0, 1024.0, 1.0)
        lows = (None, None, None, 1 / LIMIT, None, None, 0.0)
        good = all(is_within(*each) for corner in corners for each in zip(corner, limits, lows))
        if not (good and 0 <= k <= 7 and 0 <= how <= 7):
            return [-1]
        if k not in self.textures:
            return [-2]
        ordered, places = turned(corners)
        if area_by_places(*places) == 0 or ordered != corners and how >= 4:
            return [0]
        return [sum(self.draw_part(ordered, places, pixel, k, how) for pixel in self.colours)]

    def draw_part(self, corners, places, pixel, k, how):
        p = (16 * pixel[0] + 8, 16 * pixel[1] + 8)
        if not covered(places, p):
            return False
        shares = shares_by_floats(places, p)
        z, r, light_there = [dot_by_floats(shares, [corner[i] for corner in corners]) for i in (2, 3, 6)]
        u, v = [
            single(dot_by_floats(shares, [single(corner[i] * corner[3]) for corner in corners]) / r) for i in (4, 5)]
        log = self.textures[k][0]
        texel = self.texel(k, int(u * 2 ** log), int(v * 2 ** log))
        bright = max(0, min(256, round(256 * light_there)))
        texel = [byte * bright // 256 for byte in texel[:3]] + texel[3:]
        if self.fog is not None:
            colour, far, scale = self.fog
            clear_part = max(0, min(128, round(single(single(far - z) * scale))))
            texel = mix(colour[:3], texel[:3], clear_part) + texel[3:]
        return self.draw(pixel, texel, z, how)


def ask_model(*calls):
    model = Model()
    return [model.answer(call) for call in calls]
