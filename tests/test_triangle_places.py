"""Points 17 and 18: the corners' places, the area, and which pixels a triangle has."""

import itertools
import unittest

from helper import (
    LIMIT, Source, all_depths, area_by_places, ask, clear, corner, covered, depth, init, last, next_down, next_up, read,
    rows, same_as_model, texture, triangle, turned,
)

# One more for each time a pixel is drawn: added, and the depth stays.
COUNTER = texture(0, 0, [1, 0, 0, 0])
WHITE = texture(1, 0, [255, 255, 255, 255])


def plain(places, k=0, how=3):
    return triangle([corner(x, y) for x, y in places], k, how)


def counts(w, h, *triangles):
    """How often each pixel was drawn, row by row; the triangles' answers must add up to as much."""
    told_behind = ask(init(w, h), COUNTER, *triangles, *rows(h))
    found = [answer[1::4] for answer in told_behind[2 + len(triangles):]]
    answered = told_behind[2:2 + len(triangles)]
    assert sum(answer[0] for answer in answered) == sum(sum(row) for row in found)
    return found


def drawn(w, h, places, how=3):
    """The pixels that are drawn."""
    found = counts(w, h, plain(places, how=how))
    return [(i, j) for j in range(h) for i in range(w) if found[j][i]]


def expected_pixels(w, h, places):
    _, ordered = turned([corner(x, y) for x, y in places])
    if area_by_places(*ordered) == 0:
        return []
    return [(i, j) for j in range(h) for i in range(w) if covered(ordered, (16 * i + 8, 16 * j + 8))]


class Places(unittest.TestCase):
    base = ((0.0, 0.0), (2.0, 0.0), (0.0, 1.0))

    def depth_with(self, which, axis, sixteenths):
        """The depth of the one pixel, which any of the places would change."""
        corners = [corner(x, y, z) for (x, y), z in zip(self.base, (0.25, 0.375, 0.5625))]
        corners[which][axis] += sixteenths / 16
        return last(init(1, 1), WHITE, triangle(corners, k=1), depth(0, 0))

    def test_halves_go_to_the_even_one(self):
        for which in range(3):
            for axis in range(2):
                for half, whole in ((0.5, 0), (1.5, 2), (2.5, 2), (-0.5, 0), (-1.5, -2), (-2.5, -2), (3.5, 4)):
                    self.assertEqual(
                        self.depth_with(which, axis, half), self.depth_with(which, axis, whole), (which, axis, half))

    def test_off_the_halves_it_is_the_nearest(self):
        for which in range(3):
            for axis in range(2):
                for number, whole in ((0.5625, 1), (0.4375, 0), (1.4375, 1), (-0.5625, -1), (-1.4375, -1)):
                    self.assertEqual(self.depth_with(which, axis, number), self.depth_with(which, axis, whole))

    def test_each_sixteenth_counts(self):
        for which in range(3):
            for axis in range(2):
                found = [self.depth_with(which, axis, sixteenths)[1] for sixteenths in (-2, -1, 0, 1, 2)]
                self.assertGreater(len(set(found)), 2)

    def test_the_least_that_is_above_a_half(self):
        # The right edge goes through the middles, at 8 sixteenths, from 7.5 on.
        left = ((-3.0, -3.0), (7.5 / 16, -3.0), (7.5 / 16, 4.0))
        self.assertEqual(drawn(1, 1, left), [(0, 0)])
        less = next_down(7.5 / 16)
        self.assertEqual(drawn(1, 1, ((-3.0, -3.0), (less, -3.0), (less, 4.0))), [])
        # A left edge has to lie ahead of 8.
        self.assertEqual(drawn(1, 1, ((7.5 / 16, 4.0), (7.5 / 16, -3.0), (4.0, 4.0))), [])
        self.assertEqual(drawn(1, 1, ((less, 4.0), (less, -3.0), (4.0, 4.0))), [(0, 0)])

    def test_exact_products(self):
        # 16 x is brought to the whole at once, however small what is over a half.
        over = next_up(6.5 / 16)
        self.assertEqual(
            drawn(1, 1, ((over, 4.0), (over, -3.0), (4.0, 4.0))),
            drawn(1, 1, ((7 / 16, 4.0), (7 / 16, -3.0), (4.0, 4.0))))


class Areas(unittest.TestCase):
    def test_0(self):
        for places in (
            ((1, 1), (1, 1), (1, 1)), ((0, 0), (1, 1), (3, 3)), ((0, 0), (4, 0), (2, 0)), ((1, 0), (1, 5), (1, 3)),
            ((0, 0), (0, 0), (4, 4)), ((-500, -500), (500, 500), (0, 0)), ((0, 0), (4, 0), (2, 1 / 64)),
        ):
            for how in range(8):
                told_behind = ask(init(4, 4), clear(7, 9.0), WHITE, plain(places, 1, how), *rows(4), *all_depths(4, 4))
                self.assertEqual(told_behind[3], [0])
                self.assertEqual(told_behind[4:8], [[4] + [7, 0, 0, 0] * 4] * 4)
                self.assertEqual(len({tuple(answer) for answer in told_behind[8:]}), 1)

    def test_below_0(self):
        places = ((0, 0), (0, 4), (4, 0))
        forward = ((0, 0), (4, 0), (0, 4))
        self.assertEqual(len(drawn(4, 4, forward)), 10)
        for how in range(4):
            self.assertEqual(last(init(4, 4), COUNTER, plain(places, how=how)), [10 if how != 1 else 0])
        self.assertEqual(drawn(4, 4, places), drawn(4, 4, forward))
        for how in range(4, 8):
            told_behind = ask(init(4, 4), clear(7, 9.0), WHITE, plain(places, 1, how), *rows(4), *all_depths(4, 4))
            self.assertEqual(told_behind[3], [0])
            self.assertEqual(told_behind[4:8], [[4] + [7, 0, 0, 0] * 4] * 4)
            self.assertEqual(len({tuple(answer) for answer in told_behind[8:]}), 1)

    def test_above_0_from_4_on(self):
        for how in range(4, 8):
            self.assertEqual(last(init(4, 4), WHITE, plain(((0, 0), (4, 0), (0, 4)), 1, how)), [10])
            self.assertEqual(last(init(4, 4), WHITE, plain(((4, 0), (0, 4), (0, 0)), 1, how)), [10])

    def test_1_and_less_1(self):
        # The middle corner is the pixel's own middle, and both edges there are the triangle's own.
        places = [(7 / 16, 7 / 16), (8 / 16, 8 / 16), (8 / 16, 9 / 16)]
        for how in range(8):
            self.assertEqual(last(init(1, 1), WHITE, plain(places, 1, how)), [1])
            turned_round = [places[0], places[2], places[1]]
            self.assertEqual(last(init(1, 1), WHITE, plain(turned_round, 1, how)), [1 if how < 4 else 0])

    def test_b_and_c_change_places_with_all_their_numbers(self):
        given = texture(0, 3)
        corners = [
            corner(0, 0, 0.1, 1.0, 0.0, 0.0, 0.2), corner(0.25, 4, 0.7, 2.0, 1.0, 0.3, 1.0),
            corner(4, -0.5, 0.3, 0.5, 0.4, 0.9, 0.6)]
        changed = [corners[0], corners[2], corners[1]]
        for how in range(4):
            shown = [
                ask(init(4, 4), given, triangle(one, how=how), *rows(4), *all_depths(4, 4))
                for one in (corners, changed)]
            self.assertEqual(shown[0], shown[1])
            self.assertGreater(shown[0][2][0], 3)
            same_as_model(self, init(4, 4), given, triangle(corners, how=how), *rows(4), *all_depths(4, 4))


class Edges(unittest.TestCase):
    def test_a_square_has_its_right_and_lower_edges(self):
        # From middle to middle: the pixels on the left and on the top are another's.
        first = ((0.5, 0.5), (2.5, 0.5), (2.5, 2.5))
        second = ((0.5, 0.5), (2.5, 2.5), (0.5, 2.5))
        self.assertEqual(drawn(4, 4, first), [(2, 1)])
        self.assertEqual(drawn(4, 4, second), [(1, 1), (1, 2), (2, 2)])
        self.assertEqual(counts(4, 4, plain(first), plain(second)), [[0] * 4, [0, 1, 1, 0], [0, 1, 1, 0], [0] * 4])

    def test_level_edges(self):
        # The upper one goes to the right, the lower one to the left.
        self.assertEqual(drawn(3, 3, ((-5, 1.5), (9, 1.5), (1.5, 9))), [(0, 2), (1, 2), (2, 2)])
        self.assertEqual(drawn(3, 3, ((-5, 1.5), (1.5, -9), (9, 1.5))), [(i, j) for j in (0, 1) for i in range(3)])

    def test_upright_edges(self):
        self.assertEqual(drawn(3, 3, ((1.5, -9), (1.5, 9), (-30, 0))), [(i, j) for j in range(3) for i in (0, 1)])
        self.assertEqual(drawn(3, 3, ((1.5, -9), (30, 0), (1.5, 9))), [(2, j) for j in range(3)])

    def test_slanted_edges(self):
        below = ((-20.0, -20.0), (20.0, 20.0), (-20.0, 20.0))
        above = ((-20.0, -20.0), (20.0, -20.0), (20.0, 20.0))
        self.assertEqual(drawn(3, 3, below), [(0, 0), (0, 1), (1, 1), (0, 2), (1, 2), (2, 2)])
        self.assertEqual(drawn(3, 3, above), [(1, 0), (2, 0), (2, 1)])
        left = ((-20.0, 23.0), (-20.0, -20.0), (23.0, -20.0))
        right = ((-20.0, 23.0), (23.0, -20.0), (23.0, 23.0))
        self.assertEqual(drawn(3, 3, left), [(0, 0), (1, 0), (2, 0), (0, 1), (1, 1), (0, 2)])
        self.assertEqual(drawn(3, 3, right), [(2, 1), (1, 2), (2, 2)])

    def test_all_triangles_of_a_grid(self):
        # Middles and corners of pixels: edges of many directions go through the middles.
        grid = [(x / 2 + 0.5, y / 2 + 0.5) for x in range(4) for y in range(4)]
        for a, b, c in itertools.combinations(grid, 3):
            for places in ((a, b, c), (b, a, c)):
                self.assertEqual(drawn(3, 3, places), expected_pixels(3, 3, places), places)

    def test_edges_just_off_a_middle(self):
        # The corners lie about a middle, a few sixteenths away: what is 1 off an edge is common there.
        source = Source(34).random
        off = 0
        for _ in range(1500):
            places = [(source.randint(8, 40) / 16, source.randint(8, 40) / 16) for _ in range(3)]
            self.assertEqual(drawn(3, 3, places), expected_pixels(3, 3, places), places)
            ordered = turned([corner(x, y) for x, y in places])[1]
            sides = [area_by_places(ordered[i], ordered[(i + 1) % 3], (24, 24)) for i in range(3)]
            off += -1 in sides and min(sides) == -1
        self.assertGreater(off, 3)

    def test_the_order_of_the_corners_does_not_matter(self):
        places = ((0.5, 0.5), (3.5, 1.5), (1.5, 3.5))
        expected = expected_pixels(4, 4, places)
        for order in itertools.permutations(places):
            self.assertEqual(drawn(4, 4, order), expected)

    def test_edges_of_sixteen_directions(self):
        # Each edge goes through the middle of the pixel (4, 4); both of its sides are drawn, one after the other.
        for dx, dy in itertools.product((-4, -2, -1, 0, 1, 2, 4), repeat=2):
            if (dx, dy) == (0, 0):
                continue
            a, b = (4.5 - dx, 4.5 - dy), (4.5 + dx, 4.5 + dy)
            c, d = (4.5 - dy, 4.5 + dx), (4.5 + dy, 4.5 - dx)
            own = dy > 0 or dy == 0 and dx < 0
            self.assertEqual((4, 4) in drawn(9, 9, (a, b, c)), own)
            self.assertEqual((4, 4) in drawn(9, 9, (b, a, d)), not own)


class Together(unittest.TestCase):
    def test_a_common_edge_is_drawn_just_once(self):
        source = Source(31).random
        for _ in range(60):
            # A point within a square, and the square's corners: four triangles that fill it.
            inner = (source.randint(1, 31) / 4, source.randint(1, 31) / 4)
            outer = ((0, 0), (8, 0), (8, 8), (0, 8))
            fan = [plain((inner, outer[i], outer[(i + 1) % 4])) for i in range(4)]
            self.assertEqual(counts(8, 8, *fan), [[1] * 8] * 8)

    def test_a_fan_of_eight_about_a_middle(self):
        around = ((-9, -9), (4.5, -9), (20, -9), (20, 4.5), (20, 20), (4.5, 20), (-9, 20), (-9, 4.5))
        fan = [plain(((4.5, 4.5), around[i], around[(i + 1) % 8])) for i in range(8)]
        self.assertEqual(counts(9, 9, *fan), [[1] * 9] * 9)

    def test_any_two(self):
        source = Source(32).random
        for _ in range(120):
            a, b, c, d = [(source.randint(-4, 20) / 2, source.randint(-4, 20) / 2) for _ in range(4)]
            found = counts(8, 8, plain((a, b, c)), plain((a, b, d)))
            for j, i in itertools.product(range(8), repeat=2):
                p = (16 * i + 8, 16 * j + 8)
                line = [(16 * x, 16 * y) for x, y in (a, b)]
                sides = [area_by_places(*line, (16 * x, 16 * y)) for x, y in (c, d)]
                if area_by_places(*line, p) == 0 and sides[0] * sides[1] < 0:
                    self.assertLessEqual(found[j][i], 1)


class PastThePicture(unittest.TestCase):
    def test_on_each_side(self):
        for places, expected in (
            (((-500, -500), (500, -500), (0, 500)), 12),
            (((-3, -3), (2, -3), (2, 5)), 6),
            (((-3, 1.2), (2.2, 1.2), (-3, 9)), 3),
            (((2, -40), (50, 1), (2, 40)), 6),
            (((-9, 2), (40, 2), (3, 50)), 4),
            (((-9, 1), (3, -50), (40, 1)), 4),
        ):
            found = drawn(4, 3, places)
            self.assertEqual(found, expected_pixels(4, 3, places))
            self.assertEqual(len(found), expected, places)

    def test_wholly_outside(self):
        for dx, dy in ((-10, 0), (10, 0), (0, -10), (0, 10), (-10, -10), (10, 10), (-490, 0), (0, 490)):
            places = [(x + dx, y + dy) for x, y in ((0, 0), (4, 0), (0, 4))]
            self.assertEqual(drawn(4, 4, places), [])

    def test_the_farthest_corners(self):
        far = ((-500, -500), (500, -500), (500, 500))
        other = ((-500, -500), (500, 500), (-500, 500))
        found = counts(6, 6, plain(far), plain(other))
        self.assertEqual(found, [[1] * 6] * 6)
        self.assertEqual(drawn(6, 6, far), expected_pixels(6, 6, far))

    def test_the_last_pixels_of_a_great_picture(self):
        told_behind = ask(
            init(256, 256), COUNTER, plain(((250, 253.5), (500, 253.5), (250, 500))), read(253), read(254), read(255))
        self.assertEqual(told_behind[2], [12])
        self.assertEqual(told_behind[3][1::4], [0] * 256)
        self.assertEqual(told_behind[4][1::4], [0] * 250 + [1] * 6)
        self.assertEqual(told_behind[5][1::4], [0] * 250 + [1] * 6)

    def test_small_ones_between_the_middles(self):
        self.assertEqual(drawn(2, 2, ((0.6, 0.6), (1.4, 0.6), (0.6, 1.4))), [])
        self.assertEqual(drawn(2, 2, ((0.4, 0.4), (0.7, 0.4), (0.4, 0.7))), [(0, 0)])

    def test_against_the_model(self):
        source = Source(33).random
        for spread in (3, 6, 12, 500):
            for _ in range(60):
                places = [
                    (max(-500.0, source.uniform(-spread / 2, spread)), max(-500.0, source.uniform(-spread / 2, spread)))
                    for _ in range(3)]
                self.assertEqual(drawn(7, 5, places), expected_pixels(7, 5, places))


class Depths(unittest.TestCase):
    def test_hidden_pixels_are_not_counted(self):
        hidden = triangle([corner(x, y, LIMIT) for x, y in ((0, 0), (8, 0), (0, 8))], k=1)
        self.assertEqual(last(init(4, 4), WHITE, hidden), [0])


if __name__ == "__main__":
    unittest.main()
