"""Points 21 and 22: sprites."""

import unittest

from helper import (
    LIMIT, MINUS_ZERO, NOT_FINITE, ONE, Source, all_depths, ask, bits, clear, depth, flat, fog, init, last, light,
    next_down,
    next_up, pixel, read, rows, same_as_model, sprite, texture,
)

WHITE = texture(0, 0, [255, 255, 255, 255])
FOUR = texture(0, 1, [1, 0, 0, 255, 2, 0, 0, 255, 3, 0, 0, 255, 4, 0, 0, 255])
FARTHER = next_up(LIMIT)
FAR_OFF = (-2147483648, 2147483647)


def blues(w, h, *calls):
    """The blue bytes of the picture, row by row, and the last call's answer."""
    told_behind = ask(init(w, h), *calls, *rows(h))
    return [answer[1::4] for answer in told_behind[1 + len(calls):]], told_behind[len(calls)][0]


class Refusals(unittest.TestCase):
    def test_k_at_the_edges(self):
        textures = [texture(k, 0) for k in range(8)]
        for k, expected in ((-1, [-1]), (0, [1]), (7, [1]), (8, [-1])):
            self.assertEqual(last(init(1, 1), *textures, sprite(k=k)), expected)
        for k in FAR_OFF:
            self.assertEqual(last(init(1, 1), *textures, sprite(k=k)), [-1])

    def test_how_at_the_edges(self):
        for how, expected in ((-1, [-1]), (0, [1]), (1, [1]), (2, [1]), (3, [1]), (4, [-1]), (7, [-1])):
            self.assertEqual(last(init(1, 1), WHITE, sprite(how=how)), expected)
        for how in FAR_OFF:
            self.assertEqual(last(init(1, 1), WHITE, sprite(how=how)), [-1])

    def test_x_and_y_at_the_edges(self):
        for number, expected in ((-257, [-1]), (-256, [0]), (255, [0]), (256, [-1])):
            self.assertEqual(last(init(5, 5), WHITE, sprite(x=number)), expected)
            self.assertEqual(last(init(5, 5), WHITE, sprite(y=number)), expected)
        for number in FAR_OFF:
            self.assertEqual(last(init(5, 5), WHITE, sprite(x=number)), [-1])
            self.assertEqual(last(init(5, 5), WHITE, sprite(y=number)), [-1])
        self.assertEqual(last(init(256, 256), WHITE, sprite(x=255, y=255)), [1])

    def test_z_at_and_past_the_edges(self):
        for z, expected in ((-LIMIT, [1]), (LIMIT, [0]), (FARTHER, [-1]), (-FARTHER, [-1]), (2.0 ** 127, [-1])):
            self.assertEqual(last(init(1, 1), WHITE, sprite(z=z)), expected)
        self.assertEqual(last(init(1, 1), clear(0, LIMIT), WHITE, sprite(z=next_down(LIMIT))), [1])

    def test_z_not_finite(self):
        for pattern in NOT_FINITE:
            self.assertEqual(last(init(1, 1), WHITE, [10, 0, 0, 0, 0, pattern]), [-1])

    def test_without_the_texture(self):
        for k in range(8):
            textures = [texture(other, 0) for other in range(8) if other != k]
            self.assertEqual(last(init(1, 1), *textures, sprite(k=k)), [-2])
        self.assertEqual(last(init(1, 1), sprite(x=200)), [-2])

    def test_the_first_refusal_ahead_of_the_second(self):
        for call in (
            sprite(k=-1), sprite(k=8), sprite(how=-1), sprite(how=4), sprite(x=-257), sprite(x=256), sprite(y=-257),
            sprite(y=256), sprite(z=FARTHER), sprite(z=-FARTHER), [10, 0, 0, 0, 0, 0x7FC00000],
        ):
            self.assertEqual(last(init(1, 1), call), [-1])

    def test_nothing_is_changed(self):
        refused = (
            sprite(k=8), sprite(how=4), sprite(x=256), sprite(y=-257), sprite(z=FARTHER), [10, 0, 0, 0, 0, 0x7FC00000],
            sprite(k=1))
        told_behind = ask(init(2, 2), clear(0x04030201, 0.5), WHITE, *refused, *rows(2), *all_depths(2, 2))
        self.assertEqual(told_behind[3:10], [[-1]] * 6 + [[-2]])
        self.assertEqual(told_behind[10:], [[2, 1, 2, 3, 4, 1, 2, 3, 4]] * 2 + [[0, ONE // 2]] * 4)


class Places(unittest.TestCase):
    def test_its_first_texel_is_at_its_place(self):
        self.assertEqual(blues(4, 3, FOUR, sprite(x=1, y=1)), ([[0, 0, 0, 0], [0, 1, 2, 0], [0, 3, 4, 0]], 4))
        self.assertEqual(blues(4, 3, FOUR, sprite(x=0, y=0)), ([[1, 2, 0, 0], [3, 4, 0, 0], [0, 0, 0, 0]], 4))

    def test_cut_off_by_each_side(self):
        for x, y, expected in (
            (-1, 0, [[2, 0, 0], [4, 0, 0], [0, 0, 0]]), (2, 0, [[0, 0, 1], [0, 0, 3], [0, 0, 0]]),
            (0, -1, [[3, 4, 0], [0, 0, 0], [0, 0, 0]]), (0, 2, [[0, 0, 0], [0, 0, 0], [1, 2, 0]]),
        ):
            self.assertEqual(blues(3, 3, FOUR, sprite(x=x, y=y)), (expected, 2))

    def test_cut_off_by_each_corner(self):
        for x, y, expected in (
            (-1, -1, [[4, 0], [0, 0]]), (1, -1, [[0, 3], [0, 0]]), (-1, 1, [[0, 0], [2, 0]]), (1, 1, [[0, 0], [0, 1]]),
        ):
            self.assertEqual(blues(2, 2, FOUR, sprite(x=x, y=y)), (expected, 1))

    def test_wholly_outside(self):
        for x, y in ((-2, 0), (3, 0), (0, -2), (0, 3), (-256, -256), (255, 255), (-2, -2), (3, 3)):
            self.assertEqual(blues(3, 3, FOUR, sprite(x=x, y=y)), ([[0] * 3] * 3, 0))

    def test_greater_than_the_picture(self):
        given = texture(0, 3, [byte for i in range(64) for byte in (i, 0, 0, 0)])
        self.assertEqual(blues(3, 2, given, sprite(x=-2, y=-5)), ([[42, 43, 44], [50, 51, 52]], 6))

    def test_textures_of_each_side(self):
        for log in range(6):
            side = 2 ** log
            given = [(i * 3 + i // 97) % 256 for i in range(4 * side * side)]
            told_behind = ask(init(side, side), texture(5, log, given), sprite(k=5), *rows(side))
            self.assertEqual(told_behind[2], [side * side])
            self.assertEqual([byte for answer in told_behind[3:] for byte in answer[1:]], given)

    def test_each_has_the_depth(self):
        told_behind = ask(init(3, 2), FOUR, sprite(x=1, z=-2.5), *all_depths(3, 2))
        there = -5 * ONE // 2
        self.assertEqual(told_behind[3:], [[0, number] for number in (ONE, there, there, ONE, there, there)])


class Ways(unittest.TestCase):
    def shown(self, how, colour, z=0.25):
        told_behind = ask(
            init(1, 1), clear(0x80402010, 0.5), texture(0, 0, colour), sprite(how=how, z=z), read(0), depth(0, 0))
        return told_behind[3][0], told_behind[4][1:], told_behind[5][1]

    def test_0(self):
        for cover in (0, 1, 255):
            self.assertEqual(self.shown(0, [1, 2, 3, cover]), (1, [1, 2, 3, cover], ONE // 4))

    def test_1(self):
        self.assertEqual(self.shown(1, [1, 2, 3, 0]), (0, [16, 32, 64, 128], ONE // 2))
        self.assertEqual(self.shown(1, [1, 2, 3, 1]), (1, [1, 2, 3, 1], ONE // 4))

    def test_2(self):
        self.assertEqual(self.shown(2, [200, 0, 64, 0]), (1, [16, 32, 64, 128], ONE // 2))
        self.assertEqual(self.shown(2, [200, 0, 64, 1]), (1, [17, 31, 64, 127], ONE // 2))
        self.assertEqual(self.shown(2, [200, 0, 64, 2]), (1, [17, 31, 64, 127], ONE // 2))
        self.assertEqual(self.shown(2, [200, 0, 64, 254]), (1, [198, 0, 64, 253], ONE // 2))
        self.assertEqual(self.shown(2, [200, 0, 64, 255]), (1, [200, 0, 64, 255], ONE // 2))

    def test_3(self):
        self.assertEqual(self.shown(3, [1, 2, 3, 4]), (1, [17, 34, 67, 132], ONE // 2))
        self.assertEqual(self.shown(3, [239, 224, 255, 127]), (1, [255, 255, 255, 255], ONE // 2))

    def test_a_depth_that_is_the_pixel_s_own_is_not_less(self):
        for how in range(4):
            self.assertEqual(self.shown(how, [1, 2, 3, 4], 0.5), (0, [16, 32, 64, 128], ONE // 2))
            self.assertEqual(self.shown(how, [1, 2, 3, 4], next_up(0.5)), (0, [16, 32, 64, 128], ONE // 2))
            self.assertEqual(self.shown(how, [1, 2, 3, 4], next_down(0.5))[0], 1)

    def test_both_zeros_are_one_depth(self):
        self.assertEqual(last(init(1, 1), clear(0, 0.0), WHITE, [10, 0, 0, 0, 0, MINUS_ZERO]), [0])
        self.assertEqual(last(init(1, 1), [1, 0, MINUS_ZERO], WHITE, [10, 0, 0, 0, 0, bits(0.0)]), [0])

    def test_only_those_that_are_drawn_count(self):
        given = texture(0, 1, [9, 9, 9, 0, 8, 8, 8, 1, 7, 7, 7, 255, 6, 6, 6, 0])
        told_behind = ask(init(2, 2), given, sprite(how=1), *rows(2))
        self.assertEqual(told_behind[2:], [[2], [2, 0, 0, 0, 0, 8, 8, 8, 1], [2, 7, 7, 7, 255, 0, 0, 0, 0]])

    def test_hidden_by_what_is_nearer(self):
        told_behind = ask(
            init(2, 1), FOUR, WHITE[:1] + [1] + WHITE[2:], sprite(k=1, x=1, z=0.25), sprite(z=0.5), *rows(1),
            *all_depths(2, 1))
        self.assertEqual(told_behind[4:], [[1], [2, 1, 0, 0, 255, 255, 255, 255, 255], [0, ONE // 2], [0, ONE // 4]])


class AsItIs(unittest.TestCase):
    def test_neither_lit_nor_in_the_fog(self):
        given = texture(0, 0, [10, 20, 30, 40])
        for calls in ((light([0, 0, 0]),), (light([1, 1, 1]),), (fog(0xFFFFFFFF, -1.0, 0.0),), (fog(0, 0.0, 1.0),)):
            for z in (-2.0, 0.0, 0.5):
                self.assertEqual(pixel(given, *calls, sprite(z=z))[0], [10, 20, 30, 40])

    def test_neither_the_matrix_nor_the_view_moves_it(self):
        moved = [3, 16] + [bits(7.0)] * 16
        seen = [4, 4] + [bits(9.0)] * 4
        self.assertEqual(blues(2, 2, FOUR, moved, seen, sprite()), ([[1, 2], [3, 4]], 4))

    def test_the_last_texture_of_that_number(self):
        first = texture(0, 0, [1, 1, 1, 1])
        self.assertEqual(blues(2, 2, first, FOUR, sprite()), ([[1, 2], [3, 4]], 4))
        self.assertEqual(blues(2, 2, FOUR, first, sprite()), ([[1, 0], [0, 0]], 1))

    def test_between_triangles(self):
        told_behind = ask(
            init(1, 1), WHITE, FOUR[:1] + [1] + FOUR[2:], flat(z=0.5), sprite(k=1, z=0.75), sprite(k=1, z=0.25),
            flat(z=0.375), read(0), depth(0, 0))
        self.assertEqual(told_behind[3:], [[1], [0], [1], [0], [1, 1, 0, 0, 255], [0, ONE // 4]])

    def test_against_the_model(self):
        source = Source(51).random
        drawn = 0
        for _ in range(60):
            calls = [init(6, 5), clear(source.getrandbits(32), 0.75)]
            for k in range(3):
                log = source.randint(0, 3)
                calls.append(texture(k, log, [source.choice((0, 1, 2, 99, 254, 255)) for _ in range(4 * 4 ** log)]))
            for how in (0, 1, 2, 3) * 2:
                calls.append(sprite(
                    source.randint(0, 3), how, source.randint(-4, 5), source.randint(-4, 4), source.random()))
            drawn += same_as_model(self, *calls, *rows(5), *all_depths(6, 5))
        self.assertGreater(drawn, 1000)


if __name__ == "__main__":
    unittest.main()
