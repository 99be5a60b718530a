"""Points 8 and 20: what fog is refused, its scale, and how it lies over a triangle."""

import unittest

from helper import (
    LIMIT, NOT_FINITE, ask, bits, clear, flat, fog, init, last, next_down, next_up, pixel, read, same_as_model, sprite,
    texture, Source,
)

FARTHER = next_up(LIMIT)
EDGE = 2.0 ** -10
WHITE = texture(0, 0, [255, 255, 255, 77])
SHARES = {255 * share // 128: share for share in range(129)}


def share(near, far, z):
    """F, as a white texel in black fog tells it."""
    colour, _ = pixel(WHITE, clear(0, LIMIT), fog(0, near, far), flat(z=z))
    return SHARES[colour[0]]


class Refusals(unittest.TestCase):
    def test_near_at_and_past_the_edges(self):
        self.assertEqual(last(init(), fog(0, -LIMIT, 0.0)), [0])
        self.assertEqual(last(init(), fog(0, next_down(LIMIT), LIMIT)), [0])
        self.assertEqual(last(init(), fog(0, -FARTHER, 0.0)), [-1])
        self.assertEqual(last(init(), fog(0, -2.0 ** 127, 0.0)), [-1])

    def test_far_at_and_past_the_edges(self):
        self.assertEqual(last(init(), fog(0, 0.0, LIMIT)), [0])
        self.assertEqual(last(init(), fog(0, -LIMIT, LIMIT)), [0])
        self.assertEqual(last(init(), fog(0, -LIMIT, next_down(-LIMIT))), [0])
        self.assertEqual(last(init(), fog(0, 0.0, FARTHER)), [-1])
        self.assertEqual(last(init(), fog(0, -FARTHER, FARTHER)), [-1])

    def test_at_an_edge_but_not_apart(self):
        self.assertEqual(last(init(), fog(0, LIMIT, LIMIT)), [-1])
        self.assertEqual(last(init(), fog(0, -LIMIT, -LIMIT)), [-1])

    def test_not_finite(self):
        for pattern in NOT_FINITE:
            self.assertEqual(last(init(), [8, 0, pattern, bits(1.0)]), [-1])
            self.assertEqual(last(init(), [8, 0, bits(0.0), pattern]), [-1])

    def test_far_less_near_at_its_edge(self):
        self.assertEqual(last(init(), fog(0, 0.0, EDGE)), [0])
        self.assertEqual(last(init(), fog(0, -EDGE, 0.0)), [0])
        self.assertEqual(last(init(), fog(0, 1.0, 1.0 + EDGE)), [0])
        self.assertEqual(last(init(), fog(0, 0.0, next_down(EDGE))), [-1])
        self.assertEqual(last(init(), fog(0, 1.0, next_down(1.0 + EDGE))), [-1])
        self.assertEqual(last(init(), fog(0, next_up(1.0), 1.0 + EDGE)), [-1])

    def test_the_exact_difference_counts(self):
        # Rounded to a single, each of these differences is 1/1024 or more.
        for near, far in ((2.0 ** -149, EDGE), (2.0 ** -60, EDGE), (-EDGE, -2.0 ** -149), (2.0 ** -35, EDGE)):
            self.assertEqual(last(init(), fog(0, near, far)), [-1])
            self.assertEqual(last(init(), fog(0, -near, far)), [0] if near > 0 else [-1])

    def test_far_not_above_near(self):
        for near, far in ((0.0, 0.0), (1.0, 1.0), (1.0, 0.0), (LIMIT, -LIMIT)):
            self.assertEqual(last(init(), fog(0, near, far)), [-1])

    def test_any_colour(self):
        self.assertEqual(last(init(), fog(4294967295, 0.0, 1.0)), [0])


class Shares(unittest.TestCase):
    def test_ordinary_ones(self):
        self.assertEqual(share(0.0, 128.0, 28.0), 100)
        self.assertEqual(share(-64.0, 64.0, 0.0), 64)
        self.assertEqual(share(0.0, 1.0, 0.25), 96)
        self.assertEqual(share(10.0, 42.0, 26.0), 64)

    def test_at_near_and_at_far(self):
        self.assertEqual(share(3.0, 7.0, 3.0), 128)
        self.assertEqual(share(3.0, 7.0, 7.0), 0)
        self.assertEqual(share(3.0, 7.0, 2.5), 128)
        self.assertEqual(share(3.0, 7.0, 7.5), 0)

    def test_halves_go_to_the_even_one(self):
        for z, expected in ((127.5, 0), (126.5, 2), (125.5, 2), (124.5, 4), (0.5, 128), (1.5, 126), (-0.5, 128)):
            self.assertEqual(share(0.0, 128.0, z), expected, z)
        self.assertEqual(share(0.0, 128.0, next_down(127.5)), 1)
        self.assertEqual(share(0.0, 128.0, next_down(125.5)), 3)
        self.assertEqual(share(0.0, 128.0, next_up(126.5)), 1)
        self.assertEqual(share(0.0, 128.0, 128.5), 0)

    def test_far_past_0_and_128(self):
        self.assertEqual(share(0.0, EDGE, next_down(LIMIT)), 0)
        self.assertEqual(share(0.0, EDGE, -LIMIT), 128)
        self.assertEqual(share(-LIMIT, -LIMIT + 1.0, next_down(LIMIT)), 0)
        self.assertEqual(share(LIMIT - 1.0, LIMIT, -LIMIT), 128)

    def test_the_scale_is_that_of_the_rounded_difference(self):
        # 1 + (1 + 2^-23) is rounded to 2, the scale is 64; with the exact difference it would be a little less.
        self.assertEqual(share(-next_up(1.0), 1.0, 1.0 - 1.5 / 64), 2)

    def test_far_less_depth_is_rounded(self):
        # From the exact differences the products would lie on the other side of a half.
        for near, far, z, expected in (
            (-44.875, 36.75, -15.859864234924316, 82), (-33.125, 46.75, -18.460453033447266, 104),
            (-23.875, 23.25, -22.218259811401367, 124), (-8.625, 1.125, -3.635742425918579, 62),
        ):
            self.assertEqual(share(near, far, z), expected)

    def test_the_product_is_rounded_ahead_of_the_whole(self):
        # Exactly, the products lie just off a half, on the other side of it.
        for far, z, expected in ((44.25, 2.5927734375, 120), (29.875, 6.65185546875, 100), (10.125, 8.97802734375, 14)):
            self.assertEqual(share(0.0, far, z), expected)

    def test_against_floats(self):
        source = Source(11)
        drawn = 0
        for _ in range(300):
            far = source.number(4.0, -6)
            near = far - abs(source.number(4.0, -6))
            z = far - (far - near) * source.random.uniform(-0.2, 1.2)
            calls = (init(1, 1), WHITE, clear(0, LIMIT), fog(0x00FF8040, near, far), flat(z=z), read(0))
            drawn += same_as_model(self, *calls)
        self.assertEqual(drawn, 300)


class Mixing(unittest.TestCase):
    def test_up_and_down_rounded_down(self):
        # The fog's bytes are 100, 200 and 10. F is 1 first, one part of 128 is the texel's then: 100 + 100/128, 200 -
        # 100/128, 10. Then F is 127.
        texel = texture(0, 0, [200, 100, 10, 5])
        colour, _ = pixel(texel, clear(0, LIMIT), fog(0x000AC864, 0.0, 128.0), flat(z=127.0))
        self.assertEqual(colour, [100, 199, 10, 5])
        colour, _ = pixel(texel, clear(0, LIMIT), fog(0x000AC864, 0.0, 128.0), flat(z=1.0))
        self.assertEqual(colour, [199, 100, 10, 5])

    def test_none_of_the_texel_and_all_of_it(self):
        texel = texture(0, 0, [200, 100, 10, 5])
        self.assertEqual(pixel(texel, clear(0, LIMIT), fog(0x04030201, 0.0, 1.0), flat(z=1.0))[0], [1, 2, 3, 5])
        self.assertEqual(pixel(texel, clear(0, LIMIT), fog(0x04030201, 0.0, 1.0), flat(z=0.0))[0], [200, 100, 10, 5])

    def test_the_cover_is_not_mixed(self):
        for cover in (0, 1, 254, 255):
            texel = texture(0, 0, [9, 9, 9, cover])
            self.assertEqual(pixel(texel, fog(0x80808080, 0.0, 1.0), flat(z=0.5))[0][3], cover)

    def test_lit_first_and_then_in_the_fog(self):
        texel = texture(0, 0, [200, 100, 50, 5])
        colour, _ = pixel(texel, fog(0x00404040, 0.0, 1.0), flat(z=0.5, l=0.5))
        self.assertEqual(colour, [64 + 36 // 2, 64 + -14 // 2, 64 + -39 // 2, 5])

    def test_the_depth_that_is_drawn_counts_and_not_the_one_that_was_there(self):
        texel = texture(0, 0, [128, 128, 128, 255])
        for there in (0.9, 5.0, LIMIT):
            self.assertEqual(pixel(texel, clear(0, there), fog(0, 0.0, 1.0), flat(z=0.25))[0][:3], [96] * 3)

    def test_the_cover_of_the_texel_still_says_how_it_is_drawn(self):
        # A cover of 0 in fog of cover 255: nothing is drawn with how 1, and nothing is mixed with how 2.
        texel = texture(0, 0, [50, 50, 50, 0])
        told_behind = ask(init(1, 1), texel, fog(0xFFFFFFFF, 0.0, 1.0), flat(z=0.5, how=1), flat(z=0.5, how=2), read(0))
        self.assertEqual(told_behind[3:], [[0], [1], [1, 0, 0, 0, 0]])


class Kept(unittest.TestCase):
    texel = texture(0, 0, [0, 0, 0, 255])

    def test_no_fog_behind_an_init(self):
        self.assertEqual(pixel(self.texel, flat(z=0.5))[0], [0, 0, 0, 255])
        self.assertEqual(pixel(fog(0x00FFFFFF, 0.0, 1.0), init(1, 1), self.texel, flat(z=0.5))[0], [0, 0, 0, 255])

    def test_a_refused_init_leaves_it(self):
        self.assertEqual(pixel(fog(0x00FFFFFF, 0.0, 1.0), init(0, 1), self.texel, flat(z=1.0 / 2))[0][:3], [127] * 3)

    def test_it_stays_until_another_comes(self):
        calls = (self.texel, fog(0x00FFFFFF, 0.0, 1.0), clear(7, 3.0), flat(z=0.5), clear(7, 3.0))
        self.assertEqual(pixel(*calls, flat(z=0.5))[0][:3], [127] * 3)
        self.assertEqual(pixel(*calls, fog(0x00000040, 0.0, 1.0), flat(z=0.5))[0][:3], [32, 0, 0])
        self.assertEqual(pixel(*calls, fog(0x00FFFFFF, 0.0, 2.0), flat(z=0.5))[0][:3], [63] * 3)

    def test_a_refused_one_leaves_what_was_there(self):
        wrong = (
            fog(0x00000040, 0.0, FARTHER), fog(0x00000040, -FARTHER, 1.0), fog(0x00000040, 1.0, 1.0),
            fog(0x00000040, 2.0 ** -149, EDGE), [8, 0x00000040, 0x7F800000, 0], [8, 0x00000040, 0, 0x7FC00000],
        )
        for call in wrong:
            self.assertEqual(last(init(), call), [-1])
            self.assertEqual(pixel(self.texel, fog(0x00FFFFFF, 0.0, 1.0), call, flat(z=0.5))[0][:3], [127] * 3)
            self.assertEqual(pixel(self.texel, call, flat(z=0.5))[0][:3], [0] * 3)

    def test_it_changes_neither_colours_nor_depths(self):
        self.assertEqual(pixel(clear(0x04030201, 0.5), fog(0xFFFFFFFF, 0.0, 1.0)), ([1, 2, 3, 4], 2 ** 148))

    def test_sprites_are_not_in_it(self):
        self.assertEqual(pixel(self.texel, fog(0xFFFFFFFF, 0.0, 1.0), sprite(z=0.75))[0], [0, 0, 0, 255])


if __name__ == "__main__":
    unittest.main()
