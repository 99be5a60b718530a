"""How a colour is laid on a pixel; triangles and sprites are drawn alike."""

from solidsdrawn.colours import added_colour, mixed_colour

OPAQUE = 0
HOLED = 1
MIXED = 2
ADDED = 3


def laid_colour(old, new, way):
    if way == MIXED:
        return mixed_colour(old, new, (new[3] + 1) // 2)
    if way == ADDED:
        return added_colour(old, new)
    return new


# Answers how many pixels that were: 1, or 0 where nothing is drawn.
def draw_pixel(canvas, place, colour, depth, way):
    if way == HOLED and colour[3] == 0:
        return 0
    canvas.colours[place] = laid_colour(canvas.colours[place], colour, way)
    if way == OPAQUE or way == HOLED:
        canvas.depths[place] = depth
    return 1


# What lies at the same depth hides, too.
def is_hidden(canvas, place, depth):
    return depth >= canvas.depths[place]
