"""What holds over the whole program: calls of all kinds in one list, each seeing what those before it left."""

import unittest

from helper import (
    LIMIT, ONE, Source, all_depths, ask, clear, corner, depth, fade, flat, fog, init, light, marks, matrix, next_up,
    normals, points, read, rows, same_as_model, soften, sprite, texture, told, triangle, view, with_bits,
)

FARTHER = next_up(LIMIT)
INFINITE = 0x7F800000
# Each kind of call that can be refused, in each way that it can.
REFUSED = [
    init(0, 1), init(1, 257), [1, 0xFFFFFFFF, INFINITE], clear(0xFFFFFFFF, FARTHER), texture(0, 7), texture(8, 0),
    texture(-1, -1), matrix([FARTHER] * 16), with_bits(matrix(), 3, INFINITE), view([5, 5, 5, FARTHER]),
    points([1, 1, FARTHER]), points([], 257), light([1, 1, 2]), normals([1, 1, 1025]), normals([], -1),
    fog(0xFFFFFFFF, 1.0, 1.0), fog(0xFFFFFFFF, 0.0, FARTHER), [8, 0xFFFFFFFF, 0, INFINITE], flat(k=8), flat(k=5),
    flat(how=8), flat(l=2.0), flat(z=FARTHER), sprite(k=-1), sprite(k=5), sprite(how=4), sprite(x=256),
    sprite(z=FARTHER),
    fade(0xFFFFFFFF, 129), fade(0xFFFFFFFF, -1), marks([], 0xFFFFFFFF, 257), marks([0.0, 0.0, 0.0, 2 * LIMIT]),
    read(-1), read(2), depth(2, 0), depth(0, -1),
]
SECOND_REFUSAL = (flat(k=5), sprite(k=5))


def random_corner(source):
    return corner(
        source.random.uniform(-4, 10), source.random.uniform(-4, 10), source.number(2.0, -6),
        abs(source.number(8.0, -6)),
        source.number(8.0, -6), source.number(8.0, -6), abs(source.number(1.0, -6)))


def random_call(source):
    """Any kind of call; some of them are refused."""
    number = source.random.randint
    colour = source.random.getrandbits(32)
    log = number(0, 3)
    given = [source.random.choice((0, 1, 2, 100, 254, 255)) for _ in range(4 * 4 ** log)]
    kinds = (
        lambda: clear(colour, source.number(4.0, -2)),
        lambda: texture(number(0, 4), log, given),
        lambda: matrix(source.numbers(16, 4.0, -3)),
        lambda: view(source.numbers(4, 4.0, -3)),
        lambda: points(source.numbers(6, 4.0, -3)),
        lambda: light(source.numbers(3, 1.0, -3)),
        lambda: normals(source.numbers(6, 4.0, -3)),
        lambda: fog(colour, source.number(1.0, -3), source.number(4.0, -3)),
        lambda: triangle([random_corner(source) for _ in range(3)], number(0, 4), number(0, 7)),
        lambda: triangle([random_corner(source) for _ in range(3)], number(0, 3), number(0, 3)),
        lambda: sprite(number(-1, 4), number(0, 4), number(-6, 8), number(-6, 8), source.number(2.0, -6)),
        lambda: fade(colour, number(-2, 130)),
        lambda: soften(),
        lambda: marks([source.random.uniform(-2, 9) for _ in range(6)], colour),
        lambda: read(number(-1, 7)),
        lambda: depth(number(-1, 8), number(-1, 7)),
        lambda: init(number(0, 8), number(1, 7)),
    )
    # Where there's an init as often as all else, little is left to see.
    kind = source.random.choice(kinds[:-1] * 3 + kinds[-1:])
    return kind()


class AllKinds(unittest.TestCase):
    def test_lists_of_all_calls_against_the_model(self):
        source = Source(61)
        drawn = 0
        kinds = set()
        for _ in range(150):
            calls = [init(7, 6)] + [texture(k, 1) for k in range(4)] + [clear(source.random.getrandbits(32), 2.0)]
            calls += [random_call(source) for _ in range(50)]
            calls += [read(y) for y in range(7)] + [depth(x, y) for x in range(7) for y in range(5)]
            self.assertLessEqual(len(calls), 100)
            self.assertLessEqual(sum(len(call) for call in calls), 16000)
            kinds |= {call[0] for call in calls}
            drawn += same_as_model(self, *calls)
        self.assertEqual(kinds, set(range(16)))
        self.assertGreater(drawn, 2000)

    def test_each_sees_what_those_before_it_left(self):
        given = texture(2, 0, [100, 80, 60, 255])
        told_behind = ask(
            init(2, 2), clear(0x04030201, 4.0), given, flat(k=2, z=3.0), read(0), fog(0, 0.0, 4.0),
            sprite(k=2, x=1, z=3.5),
            read(0), flat(k=2, z=2.0), depth(0, 0), read(0), fade(0xFFFFFFFF, 128), read(1), marks([1.0, 1.0], 0),
            read(1),
            soften(), read(0), sprite(k=2, y=1, z=LIMIT), depth(0, 1), sprite(k=2, y=1, z=3.0), read(1))
        self.assertEqual(told_behind[3:], [
            [1], [2, 100, 80, 60, 255, 1, 2, 3, 4], [0], [1],
            [2, 100, 80, 60, 255, 100, 80, 60, 255], [1], [0, told(2.0)], [2, 50, 40, 30, 255, 100, 80, 60, 255], [0],
            [2] + [255] * 8, [1], [2] + [255] * 4 + [0] * 4, [0], [2, 192, 192, 192, 192, 128, 128, 128, 128],
            [0], [0, told(4.0)], [1], [2, 100, 80, 60, 255, 0, 0, 0, 0]])

    def test_corners_moved_then_drawn(self):
        # What points answers is handed to a triangle: four corners of a square, seen from afar.
        m = [1, 0, 0, 0, 0, 1, 0, 0, 0, 0, 1, 0, 0, 0, 0.25, 1]
        told_behind = ask(init(8, 8), matrix(m), view([4, 4, 4, 4]), points([-1, -1, 4, 1, -1, 4, 1, 1, 4]))
        places = [number / ONE for number in told_behind[-1][1:]]
        corners = [places[i:i + 4] + [0, 0, 1] for i in (0, 4, 8)]
        self.assertEqual([one[:4] for one in corners], [[2, 2, 2, 0.5], [6, 2, 2, 0.5], [6, 6, 2, 0.5]])
        told_behind = ask(init(8, 8), clear(0, 5.0), texture(0, 0), triangle(corners))
        self.assertEqual(told_behind[3], [6])


class Refused(unittest.TestCase):
    before = [
        init(2, 2), clear(0x04030201, 0.75), texture(0, 0, [90, 60, 30, 255]), matrix([2] * 15 + [1]),
        view([1, 2, 3, 4]), light([0, 0.5, 0]), fog(0x00404040, 0.0, 1.0), flat(z=0.5), marks([1.0, 1.0], 0x08070605),
    ]
    behind = [
        *rows(2), *all_depths(2, 2), points([1, 0, 0]), normals([0, 4, 0]), clear(0, 5.0), flat(z=0.25), sprite(x=1),
        *rows(2),
    ]

    def test_each_kind_changes_nothing(self):
        expected = ask(*self.before, *self.behind)[len(self.before):]
        for call in REFUSED:
            told_behind = ask(*self.before, call, *self.behind)[len(self.before):]
            self.assertEqual(told_behind[0], [-2] if call in SECOND_REFUSAL else [-1], call)
            self.assertEqual(told_behind[1:], expected, call)

    def test_all_of_them_one_behind_another(self):
        expected = ask(*self.before, *self.behind)[len(self.before):]
        told_behind = ask(*self.before, *REFUSED, *self.behind)[len(self.before) + len(REFUSED):]
        self.assertEqual(told_behind, expected)


class InitAgain(unittest.TestCase):
    def test_all_is_new(self):
        kept = [
            clear(0x04030201, 0.25), texture(0, 0, [9, 9, 9, 9]), texture(7, 1), matrix([2] * 16), view([9, 9, 9, 9]),
            light([1, 1, 1]), fog(0xFFFFFFFF, 0.0, 1.0), sprite(), marks([1.0, 1.0]), fade(0xFFFFFFFF, 9),
        ]
        behind = [
            init(3, 2), *rows(2), *all_depths(3, 2), sprite(), flat(k=7), points([1, 2, 3]), normals([0, 2, 0]),
            texture(0, 0, [8, 8, 8, 8]), flat(z=0.5), *rows(2)]
        self.assertEqual(ask(init(2, 2), *kept, *behind)[1 + len(kept):], ask(*behind))

    def test_greater_and_smaller(self):
        told_behind = ask(
            init(1, 1), read(1), depth(1, 0), init(2, 2), read(1), depth(1, 1), marks([1.0, 1.0]), init(1, 1), read(0),
            read(1),
            depth(1, 0), marks([1.0, 1.0, 0.0, 0.0]))
        self.assertEqual(told_behind, [
            [0], [-1], [-1], [0], [2] + [0] * 8, [0, ONE], [1], [0], [1, 0, 0, 0, 0], [-1], [-1], [1]])


class TexturesShown(unittest.TestCase):
    def test_one_put_in_place_of_another(self):
        small = texture(1, 0, [7, 7, 7, 7])
        large = texture(1, 1, [1, 1, 1, 1, 2, 2, 2, 2, 3, 3, 3, 3, 4, 4, 4, 4])
        other = texture(0, 0, [5, 5, 5, 5])
        told_behind = ask(
            init(2, 2), small, other, sprite(k=1, z=0.9), *rows(2), large, *rows(2), sprite(k=1, z=0.8), *rows(2),
            small,
            sprite(k=1, z=0.7), *rows(2), sprite(k=0, z=0.6), *rows(2))
        self.assertEqual(told_behind[3:], [
            [1], [2, 7, 7, 7, 7, 0, 0, 0, 0], [2] + [0] * 8, [0], [2, 7, 7, 7, 7, 0, 0, 0, 0], [2] + [0] * 8,
            [4], [2, 1, 1, 1, 1, 2, 2, 2, 2], [2, 3, 3, 3, 3, 4, 4, 4, 4], [0],
            [1], [2, 7, 7, 7, 7, 2, 2, 2, 2], [2, 3, 3, 3, 3, 4, 4, 4, 4],
            [1], [2, 5, 5, 5, 5, 2, 2, 2, 2], [2, 3, 3, 3, 3, 4, 4, 4, 4]])

    def test_the_triangle_s_side_goes_by_the_last_one(self):
        large = texture(0, 1, [1, 1, 1, 1, 2, 2, 2, 2, 3, 3, 3, 3, 4, 4, 4, 4])
        told_behind = ask(
            init(1, 1), texture(0, 0, [7, 7, 7, 7]), flat(u=0.5, v=0.5, how=2), large, flat(u=0.5, v=0.0), read(0),
            flat(u=0.0, v=0.5, z=-1.0), read(0))
        self.assertEqual(told_behind[-3:], [[1, 2, 2, 2, 2], [1], [1, 3, 3, 3, 3]])

    def test_a_refused_one_leaves_the_one_before(self):
        told_behind = ask(
            init(1, 1), texture(0, 0, [7, 6, 5, 4]), texture(0, 7), texture(0, -1), sprite(), read(0), texture(9, 0),
            flat(k=1))
        self.assertEqual(told_behind[2:], [[-1], [-1], [1], [1, 7, 6, 5, 4], [-1], [-2]])

    def test_eight_of_them(self):
        calls = [texture(k, 0, [k + 1] * 4) for k in range(8)] + [sprite(k=k, x=k) for k in range(8)]
        self.assertEqual(ask(init(8, 1), *calls, read(0))[-1], [8] + [k + 1 for k in range(8) for _ in range(4)])


if __name__ == "__main__":
    unittest.main()
