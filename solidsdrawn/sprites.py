"""Sprites: a texture laid on as it is, texel by texel."""

from solidsdrawn.pixels import draw_pixel, is_hidden


def draw_texel(canvas, x, y, colour, depth, how):
    if not canvas.has_pixel(x, y):
        return 0
    place = canvas.place_of(x, y)
    if is_hidden(canvas, place, depth):
        return 0
    return draw_pixel(canvas, place, colour, depth, how)


def draw_sprite(canvas, texture, how, x, y, depth):
    drawn = 0
    for index, colour in enumerate(texture.colours):
        column = index % texture.side
        row = index // texture.side
        drawn = drawn + draw_texel(canvas, x + column, y + row, colour, depth, how)
    return drawn
