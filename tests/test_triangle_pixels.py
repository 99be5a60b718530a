"""Points 19 to 21: depth, texel, light and fog of a triangle's pixels, and how they are drawn."""

import unittest

from helper import (
    LIMIT, ONE, Source, all_depths, ask, clear, corner, depth, flat, fog, init, last, next_down, next_up, pixel, read,
    rows,
    same_as_model, single, texture, told, triangle,
)

WHITE = texture(0, 0, [255, 255, 255, 255])
HALF_TEXEL = texture(0, 0, [100, 60, 20, 255])


def numbered(log):
    """A texture each of whose texels tells its column (blue) and its row (green)."""
    side = 2 ** log
    return texture(0, log, [byte for row in range(side) for column in range(side) for byte in (column, row, 0, 255)])


def texel(log, u, v, r=1.0):
    """The column and the row that are found."""
    return tuple(pixel(numbered(log), flat(u=u, v=v, r=r))[0][:2])


class Depths(unittest.TestCase):
    def test_each_corner_counts_by_its_share(self):
        # The shares are 1/4, 1/4 and 1/2.
        corners = [corner(0, 0, 8.0), corner(2, 0, -4.0), corner(0, 1, -2.5)]
        self.assertEqual(pixel(WHITE, triangle(corners))[1], told(8.0 / 4 - 4.0 / 4 - 2.5 / 2))

    def test_the_shares_are_rounded(self):
        # They are 1/3, 1/6 and 1/2, each of them the nearest single.
        corners = [corner(0, 0), corner(3, 0), corner(0, 1)]
        shares = [single(1 / 3), single(1 / 6), 0.5]
        for which in range(3):
            zs = [0.0] * 3
            zs[which] = 0.75
            call = triangle([one[:2] + [z] + one[3:] for one, z in zip(corners, zs)])
            self.assertEqual(pixel(WHITE, call)[1], told(single(shares[which] * 0.75)))

    def test_whole_numbers_are_made_singles_first(self):
        # The area and its parts have more bits than a single keeps.
        source = Source(41)
        drawn = 0
        for _ in range(40):
            places = [(-400.0, -450.0), (490.0, -430.0), (10.0, 495.0)]
            corners = [
                corner(x + source.random.randint(-80, 80) / 16, y - source.random.randint(0, 80) / 16, z)
                for (x, y), z in zip(places, source.numbers(3, 1.0, -3))]
            drawn += same_as_model(self, init(3, 3), clear(0, 9.0), WHITE, triangle(corners), *all_depths(3, 3))
        self.assertGreater(drawn, 300)

    def test_the_order_of_the_sums(self):
        # The small one is lost where it is added to the great one, and isn't where the great ones have gone before.
        corners = [corner(0, 0, LIMIT), corner(2, 0, 2.0 ** -4), corner(0, 1, -LIMIT / 2)]
        self.assertEqual(pixel(WHITE, triangle(corners))[1], 0)
        corners = [corner(0, 0, LIMIT), corner(2, 0, -LIMIT), corner(0, 1, 2.0 ** -4)]
        self.assertEqual(pixel(WHITE, triangle(corners))[1], told(2.0 ** -5))

    def test_small_ones_are_rounded_too(self):
        corners = [corner(0, 0, 2.0 ** -149), corner(2, 0, 2.0 ** -149), corner(0, 1, 3 * 2.0 ** -149)]
        self.assertEqual(pixel(WHITE, triangle(corners))[1], 2)
        corners = [corner(0, 0, -6 * 2.0 ** -149), corner(2, 0, 0.0), corner(0, 1, 0.0)]
        self.assertEqual(pixel(WHITE, triangle(corners))[1], -2)

    def test_a_depth_that_is_the_pixel_s_own_is_not_less(self):
        for z in (-3.5, 0.0, 1.0, 2.0 ** -140):
            told_behind = ask(init(1, 1), clear(7, z), WHITE, flat(z=z), read(0))
            self.assertEqual(told_behind[3:], [[0], [1, 7, 0, 0, 0]])
        self.assertEqual(last(init(1, 1), clear(7, 1.0), WHITE, flat(z=next_down(1.0))), [1])
        self.assertEqual(last(init(1, 1), clear(7, 1.0), WHITE, flat(z=next_up(1.0))), [0])
        self.assertEqual(last(init(1, 1), clear(7, -1.0), WHITE, flat(z=-next_up(1.0))), [1])
        self.assertEqual(last(init(1, 1), [1, 7, 0x80000000], WHITE, flat(z=0.0)), [0])

    def test_it_takes_the_texel_of_no_hidden_pixel(self):
        for how in range(8):
            told_behind = ask(init(1, 1), clear(7, 0.5), WHITE, flat(z=0.75, how=how), read(0), depth(0, 0))
            self.assertEqual(told_behind[3:], [[0], [1, 7, 0, 0, 0], [0, ONE // 2]])


class Texels(unittest.TestCase):
    def test_column_and_row(self):
        self.assertEqual(texel(2, 0.3, 0.6), (1, 2))
        self.assertEqual(texel(2, 0.75, 0.0), (3, 0))
        self.assertEqual(texel(5, 0.5, 0.96875), (16, 31))

    def test_a_texture_laid_out_over_a_picture(self):
        for log in range(6):
            side = 2 ** log
            corners = [corner(0, 0), corner(side, 0, u=1.0), corner(side, side, u=1.0, v=1.0), corner(0, side, v=1.0)]
            calls = (triangle(corners[:3]), triangle([corners[0], corners[2], corners[3]]))
            told_behind = ask(init(side, side), numbered(log), *calls, *rows(side))
            self.assertEqual(sum(answer[0] for answer in told_behind[2:4]), side * side)
            for y, answer in enumerate(told_behind[4:]):
                self.assertEqual(answer[1:], [byte for x in range(side) for byte in (x, y, 0, 255)])

    def test_far_off_in_a_large_texture(self):
        self.assertEqual(texel(5, 1023.984375, 1024.0), (31, 0))

    def test_past_1(self):
        for number, expected in ((1.0, 0), (1.3, 1), (1.75, 3), (2.0, 0), (7.5, 2), (1024.0, 0), (1023.9, 3)):
            self.assertEqual(texel(2, number, 0.0), (expected, 0))
            self.assertEqual(texel(2, 0.0, number), (0, expected))

    def test_below_0_it_is_cut_towards_0_first(self):
        for number, expected in (
            (-0.1, 0), (-0.24, 0), (-0.25, 3), (-0.3, 3), (-0.5, 2), (-0.75, 1), (-0.99, 1), (-1.0, 0), (-1.1, 0),
            (-1.25, 3), (-1024.0, 0), (-1023.9, 1),
        ):
            self.assertEqual(texel(2, number, 0.0), (expected, 0), number)
            self.assertEqual(texel(2, 0.0, number), (0, expected), number)

    def test_side_1(self):
        for number in (0.0, 0.5, -0.5, 5.5, -1024.0, 1024.0):
            self.assertEqual(texel(0, number, number), (0, 0))

    def test_at_the_edges_of_a_texel(self):
        for number, expected in ((next_down(0.25), 0), (0.25, 1), (next_down(0.5), 1), (0.5, 2), (next_down(1.0), 3)):
            self.assertEqual(texel(2, number, 0.0), (expected, 0))
            self.assertEqual(texel(2, 0.0, number), (0, expected))
            self.assertEqual(texel(2, -number, 0.0), ((-expected) % 4, 0))

    def test_seen_in_perspective(self):
        # u r is 0, 0 and 4, by halves: 2; R is 1/4 + 1/4 + 2; U is 0.8.
        corners = [corner(0, 0), corner(2, 0), corner(0, 1, r=4.0, u=1.0, v=0.5)]
        self.assertEqual(pixel(numbered(3), triangle(corners))[0][:2], [6, 3])
        # The other way round the first two count: 0.25 of 4 + 4; R is 2 + 1/2.
        corners = [corner(0, 0, r=4.0, u=1.0), corner(2, 0, r=4.0, v=1.0), corner(0, 1)]
        self.assertEqual(pixel(numbered(4), triangle(corners))[0][:2], [6, 6])

    def test_r_alone_does_not_matter_where_it_is_the_same(self):
        for r in (1 / LIMIT, 0.5, 2.0, LIMIT):
            self.assertEqual(texel(3, 0.4, 0.9, r), (3, 7))

    def test_every_rounding_against_floats(self):
        # U and V go up to 1024 and the textures have 32 texels: one step of rounding is often another texel.
        source = Source(42)
        drawn = 0
        for smallest in (-2, -12):
            for _ in range(40):
                corners = [
                    corner(x, y, 0.0, abs(source.number(64.0, smallest)), *source.numbers(2, 1024.0, 6))
                    for x, y in ((-1, -2), (20, 1), (3, 19))]
                drawn += same_as_model(self, init(8, 8), numbered(5), triangle(corners), *rows(8))
        self.assertGreater(drawn, 3000)

    def test_numbers_of_all_sizes_against_floats(self):
        source = Source(43)
        for smallest in (-20, -60, -140):
            for _ in range(30):
                corners = [
                    corner(x, y, source.number(LIMIT, smallest), abs(source.number(LIMIT, -20)),
                           *source.numbers(2, 1024.0, smallest), abs(source.number(1.0, smallest)))
                    for x, y in ((-3, -1), (7, 0), (1, 8))]
                calls = (init(4, 4), clear(9, LIMIT), numbered(3), triangle(corners))
                same_as_model(self, *calls, *rows(4), *all_depths(4, 4))


class Lights(unittest.TestCase):
    def test_ordinary_ones(self):
        self.assertEqual(pixel(HALF_TEXEL, flat(l=0.5))[0], [50, 30, 10, 255])
        self.assertEqual(pixel(HALF_TEXEL, flat(l=0.75))[0], [75, 45, 15, 255])

    def test_rounded_down(self):
        self.assertEqual(pixel(WHITE, flat(l=0.5))[0], [127, 127, 127, 255])
        self.assertEqual(pixel(texture(0, 0, [1, 2, 3, 9]), flat(l=255 / 256))[0], [0, 1, 2, 9])

    def test_at_0_and_at_1(self):
        self.assertEqual(pixel(HALF_TEXEL, flat(l=0.0))[0], [0, 0, 0, 255])
        self.assertEqual(pixel(HALF_TEXEL, flat(l=1.0))[0], [100, 60, 20, 255])
        self.assertEqual(pixel(WHITE, flat(l=1.0))[0], [255] * 4)
        self.assertEqual(pixel(HALF_TEXEL, flat(l=2.0 ** -149))[0], [0, 0, 0, 255])

    def test_halves_go_to_the_even_one(self):
        # A byte of 255 tells L less 1, from 1 on.
        for half, expected in ((1.5, 2), (2.5, 2), (3.5, 4), (100.5, 100), (101.5, 102), (254.5, 254), (255.5, 256)):
            self.assertEqual(pixel(WHITE, flat(l=half / 256))[0][:3], [expected - 1] * 3)
        self.assertEqual(pixel(WHITE, flat(l=next_up(2.5 / 256)))[0][:3], [2] * 3)
        self.assertEqual(pixel(WHITE, flat(l=next_down(1.5 / 256)))[0][:3], [0] * 3)
        self.assertEqual(pixel(WHITE, flat(l=next_down(255.5 / 256)))[0][:3], [254] * 3)

    def test_the_cover_stays(self):
        for cover in (0, 1, 128, 255):
            self.assertEqual(pixel(texture(0, 0, [8, 8, 8, cover]), flat(l=0.25))[0], [2, 2, 2, cover])

    def test_each_corner_counts_by_its_share(self):
        corners = [corner(0, 0, l=1.0), corner(2, 0, l=0.5), corner(0, 1, l=0.25)]
        self.assertEqual(pixel(texture(0, 0, [64, 128, 192, 1]), triangle(corners))[0], [32, 64, 96, 1])

    def test_the_blend_is_rounded_ahead_of_the_whole(self):
        # The shares are 1/3, 1/6 and 1/2; from the exact blend each L would be one off.
        for lights, expected in (
            ((0.7607421875, 0.1533203125, 0.359700471162796), 118),
            ((0.72265625, 0.3759765625, 0.5921223163604736), 154),
            ((0.84375, 0.9716796875, 0.9925130605697632), 240), ((0.6123046875, 0.9345703125, 0.2998047471046448), 130),
        ):
            corners = [corner(x, y, l=l) for (x, y), l in zip(((0, 0), (3, 0), (0, 1)), lights)]
            self.assertEqual(pixel(WHITE, triangle(corners))[0][:3], [expected - 1] * 3)

    def test_the_light_of_the_normals_is_another(self):
        self.assertEqual(pixel(HALF_TEXEL, [6, 3, 0x3F800000, 0, 0], flat(l=0.5))[0], [50, 30, 10, 255])


class Ways(unittest.TestCase):
    under = clear(0x80402010, 0.5)

    def shown(self, how, colour, z=0.25):
        """The answer, the bytes and the depth behind it, over bytes 16, 32, 64, 128 at 1/2."""
        told_behind = ask(init(1, 1), self.under, texture(0, 0, colour), flat(z=z, how=how), read(0), depth(0, 0))
        return told_behind[3][0], told_behind[4][1:], told_behind[5][1]

    def test_0(self):
        for how in (0, 4):
            for cover in (0, 1, 255):
                self.assertEqual(self.shown(how, [1, 2, 3, cover]), (1, [1, 2, 3, cover], ONE // 4))

    def test_1(self):
        for how in (1, 5):
            self.assertEqual(self.shown(how, [1, 2, 3, 0]), (0, [16, 32, 64, 128], ONE // 2))
            self.assertEqual(self.shown(how, [1, 2, 3, 1]), (1, [1, 2, 3, 1], ONE // 4))
            self.assertEqual(self.shown(how, [0, 0, 0, 255]), (1, [0, 0, 0, 255], ONE // 4))

    def test_2(self):
        # By 0, 1, 1, 127 and 128 parts of 128: the cover is mixed, too.
        for how in (2, 6):
            self.assertEqual(self.shown(how, [200, 0, 64, 0]), (1, [16, 32, 64, 128], ONE // 2))
            self.assertEqual(self.shown(how, [200, 0, 64, 1]), (1, [17, 31, 64, 127], ONE // 2))
            self.assertEqual(self.shown(how, [200, 0, 64, 2]), (1, [17, 31, 64, 127], ONE // 2))
            self.assertEqual(self.shown(how, [200, 0, 64, 3]), (1, [18, 31, 64, 126], ONE // 2))
            self.assertEqual(self.shown(how, [200, 0, 64, 254]), (1, [198, 0, 64, 253], ONE // 2))
            self.assertEqual(self.shown(how, [200, 0, 64, 255]), (1, [200, 0, 64, 255], ONE // 2))

    def test_3(self):
        for how in (3, 7):
            self.assertEqual(self.shown(how, [1, 2, 3, 4]), (1, [17, 34, 67, 132], ONE // 2))
            self.assertEqual(self.shown(how, [239, 223, 191, 127]), (1, [255, 255, 255, 255], ONE // 2))
            self.assertEqual(self.shown(how, [240, 224, 192, 128]), (1, [255, 255, 255, 255], ONE // 2))
            self.assertEqual(self.shown(how, [255, 255, 255, 255]), (1, [255, 255, 255, 255], ONE // 2))
            self.assertEqual(self.shown(how, [0, 0, 0, 0]), (1, [16, 32, 64, 128], ONE // 2))
            self.assertEqual(self.shown(how, [238, 0, 0, 126]), (1, [254, 32, 64, 254], ONE // 2))

    def test_what_is_lit_is_what_is_drawn(self):
        calls = (self.under, texture(0, 0, [200, 0, 64, 255]))
        self.assertEqual(pixel(*calls, flat(l=0.5, how=2))[0], [100, 0, 32, 255])
        self.assertEqual(pixel(*calls, flat(l=0.5, how=3))[0], [116, 32, 96, 255])

    def test_what_is_in_the_fog_is_what_is_drawn(self):
        calls = (self.under, texture(0, 0, [200, 0, 64, 255]), fog(0x00000064, 0.0, 1.0))
        self.assertEqual(pixel(*calls, flat(z=0.25, how=2))[0], [175, 0, 48, 255])
        self.assertEqual(pixel(*calls, flat(z=0.25, how=3))[0], [191, 32, 112, 255])

    def test_one_behind_another(self):
        # With 0 and 1 the second one is hidden by the first, with 2 and 3 it isn't.
        for how in range(8):
            told_behind = ask(init(1, 1), WHITE, flat(z=0.25, how=how), flat(z=0.375, how=how), depth(0, 0))
            self.assertEqual(told_behind[2:], [[1], [0 if how % 4 < 2 else 1], [0, ONE // 4 if how % 4 < 2 else ONE]])

    def test_only_those_texels_that_are_drawn_count(self):
        # Half of the texture's columns have a cover of 0.
        given = texture(0, 1, [9, 9, 9, 0, 8, 8, 8, 1] * 2)
        corners = [corner(0, 0), corner(8, 0, u=2.0), corner(0, 8, v=2.0)]
        told_behind = ask(init(4, 4), given, triangle(corners, how=1), *rows(4))
        self.assertEqual(told_behind[2], [8])
        self.assertEqual(told_behind[3:], [[4] + [0, 0, 0, 0, 0, 0, 0, 0, 8, 8, 8, 1, 8, 8, 8, 1]] * 4)

    def test_against_the_model(self):
        source = Source(44)
        drawn = 0
        for _ in range(60):
            colours = [source.random.choice((0, 1, 2, 127, 128, 254, 255, 77)) for _ in range(4 * 16)]
            calls = [init(5, 5), clear(source.random.getrandbits(32), 0.75), texture(0, 2, colours)]
            calls.append(fog(source.random.getrandbits(32), -1.0, 1.5))
            for how in range(8):
                corners = [
                    corner(source.random.uniform(-3, 8), source.random.uniform(-3, 8), source.number(1.0, -3),
                           abs(source.number(4.0, -3)), source.number(4.0, -3), source.number(4.0, -3),
                           abs(source.number(1.0, -3)))
                    for _ in range(3)]
                calls.append(triangle(corners, how=how))
            drawn += same_as_model(self, *calls, *rows(5), *all_depths(5, 5))
        self.assertGreater(drawn, 1000)


if __name__ == "__main__":
    unittest.main()
