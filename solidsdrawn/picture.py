"""The calls, read from one list of whole numbers, and what they answer."""

from solidsdrawn.canvas import Canvas, Texture
from solidsdrawn.colours import bytes_from_colours, colour_from_number, colours_from_bytes
from solidsdrawn.corners import lit_normals, moved_points
from solidsdrawn.doubles import whole_from_double
from solidsdrawn.finish import fade_colours, mark_pixels, soften_colours
from solidsdrawn.fog import Fog
from solidsdrawn.limits import (
    NoTexture, Refused, double_within, single_between, single_within, singles_within, whole_within,
)
from solidsdrawn.singles import power_of_two
from solidsdrawn.sprites import draw_sprite
from solidsdrawn.triangles import Corner, draw_triangle

WIDEST = 256
FARTHEST = 1048576
BRIGHTEST = 1
LAST_TEXTURE = 7
LARGEST_LOG = 6
MOST_POINTS = 256
LONGEST_NORMAL = 1024
FARTHEST_CORNER = 500
FARTHEST_TEXEL = 1024
CORNER_SIZE = 7
LAST_TRIANGLE_HOW = 7
LAST_SPRITE_HOW = 3
FIRST_SPRITE_PLACE = -256
LAST_SPRITE_PLACE = 255
MOST_FADED = 128
MOST_MARKS = 256


# Every def of a call looks at all it is handed before it changes anything, as
# a refused call leaves all as it was.
def call_init(canvas, wholes, row):
    width = whole_within(wholes[0], 1, WIDEST)
    height = whole_within(wholes[1], 1, WIDEST)
    canvas.renew(width, height)
    return [0]


def call_clear(canvas, wholes, row):
    depth = single_within(wholes[1], FARTHEST)
    canvas.fill(colour_from_number(wholes[0]), depth)
    return [0]


def call_texture(canvas, wholes, row):
    k = whole_within(wholes[0], 0, LAST_TEXTURE)
    log = whole_within(wholes[1], 0, LARGEST_LOG)
    canvas.textures[k] = Texture(log, colours_from_bytes(row))
    return [0]


def call_matrix(canvas, wholes, row):
    canvas.matrix = singles_within(row, FARTHEST)
    return [0]


def call_view(canvas, wholes, row):
    canvas.view = singles_within(row, FARTHEST)
    return [0]


def call_points(canvas, wholes, row):
    whole_within(wholes[0], 0, MOST_POINTS)
    return moved_points(canvas.matrix, canvas.view, singles_within(row, FARTHEST))


def call_light(canvas, wholes, row):
    canvas.light = singles_within(row, BRIGHTEST)
    return [0]


def call_normals(canvas, wholes, row):
    whole_within(wholes[0], 0, MOST_POINTS)
    return lit_normals(canvas.light, singles_within(row, LONGEST_NORMAL))


# The exact difference is looked at: one just too small could be rounded up.
def call_fog(canvas, wholes, row):
    near = single_within(wholes[1], FARTHEST)
    far = single_within(wholes[2], FARTHEST)
    if far - near < power_of_two(-10):
        raise Refused()
    canvas.fog = Fog(colour_from_number(wholes[0]), near, far)
    return [0]


def corner_from_bits(row):
    numbers = singles_within(row[:2], FARTHEST_CORNER)
    numbers.append(single_within(row[2], FARTHEST))
    numbers.append(single_between(row[3], power_of_two(-20), power_of_two(20)))
    numbers.extend(singles_within(row[4:6], FARTHEST_TEXEL))
    numbers.append(single_between(row[6], 0, power_of_two(0)))
    return Corner(numbers)


def call_triangle(canvas, wholes, row):
    k = whole_within(wholes[0], 0, LAST_TEXTURE)
    how = whole_within(wholes[1], 0, LAST_TRIANGLE_HOW)
    corners = [corner_from_bits(row[start:start + CORNER_SIZE]) for start in range(0, len(row), CORNER_SIZE)]
    return [draw_triangle(canvas, canvas.texture_at(k), how, corners)]


def call_sprite(canvas, wholes, row):
    k = whole_within(wholes[0], 0, LAST_TEXTURE)
    how = whole_within(wholes[1], 0, LAST_SPRITE_HOW)
    x = whole_within(wholes[2], FIRST_SPRITE_PLACE, LAST_SPRITE_PLACE)
    y = whole_within(wholes[3], FIRST_SPRITE_PLACE, LAST_SPRITE_PLACE)
    depth = single_within(wholes[4], FARTHEST)
    return [draw_sprite(canvas, canvas.texture_at(k), how, x, y, depth)]


def call_fade(canvas, wholes, row):
    by = whole_within(wholes[1], 0, MOST_FADED)
    fade_colours(canvas, colour_from_number(wholes[0]), by)
    return [0]


def call_soften(canvas, wholes, row):
    soften_colours(canvas)
    return [0]


def call_marks(canvas, wholes, row):
    whole_within(wholes[0], 0, MOST_MARKS)
    numbers = [whole_from_double(double_within(bits, FARTHEST)) for bits in row]
    return [mark_pixels(canvas, numbers, colour_from_number(wholes[1]))]


def call_read(canvas, wholes, row):
    y = whole_within(wholes[0], 0, canvas.height - 1)
    start = canvas.place_of(0, y)
    return [canvas.width] + bytes_from_colours(canvas.colours[start:start + canvas.width])


def call_depth(canvas, wholes, row):
    x = whole_within(wholes[0], 0, canvas.width - 1)
    y = whole_within(wholes[1], 0, canvas.height - 1)
    return [0, canvas.depths[canvas.place_of(x, y)]]


# By the number of a call: what answers it, how many whole numbers it has, and
# whether a row follows them.
HANDLERS = (
    call_init, call_clear, call_texture, call_matrix, call_view, call_points, call_light, call_normals,
    call_fog, call_triangle, call_sprite, call_fade, call_soften, call_marks, call_read, call_depth,
)
WHOLES = (2, 2, 2, 0, 0, 1, 0, 1, 3, 2, 5, 2, 0, 2, 1, 2)
HAS_ROW = (
    False, False, True, True, True, True, True, True, False, True, False, False, False, True, False, False,
)


def end_of_call(calls, start):
    number = calls[start]
    end = start + 1 + WHOLES[number]
    if HAS_ROW[number]:
        end = end + 1 + calls[end]
    return end


def answer_of(canvas, call):
    number = call[0]
    wholes_end = 1 + WHOLES[number]
    row = call[wholes_end + 1:] if HAS_ROW[number] else []
    try:
        return HANDLERS[number](canvas, call[1:wholes_end], row)
    except Refused:
        return [-1]
    except NoTexture:
        return [-2]


def answers(calls):
    canvas = Canvas()
    told = []
    start = 0
    while start < len(calls):
        end = end_of_call(calls, start)
        answer = answer_of(canvas, calls[start:end])
        told.append(len(answer))
        told.extend(answer)
        start = end
    return told
