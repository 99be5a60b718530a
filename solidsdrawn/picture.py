"""The calls, read from one list of whole numbers, and what they answer."""

from solidsdrawn.canvas import Canvas, Texture, colour_from_number, colours_from_bytes
from solidsdrawn.corners import lit_normals, moved_points
from solidsdrawn.limits import Refused, single_within, singles_within, whole_within

WIDEST = 256
FARTHEST = 1048576
BRIGHTEST = 1
LAST_TEXTURE = 7
LARGEST_LOG = 6
MOST_POINTS = 256
LONGEST_NORMAL = 1024


# Every def of a call looks at all it is handed before it changes anything, as
# a refused call leaves all as it was.
def call_init(canvas, wholes, row):
    width = whole_within(wholes[0], 1, WIDEST)
    height = whole_within(wholes[1], 1, WIDEST)
    canvas.renew(width, height)
    return [0]


def call_clear(canvas, wholes, row):
    depth = single_within(wholes[1], FARTHEST)
    canvas.fill(colour_from_number(wholes[0]), depth)
    return [0]


def call_texture(canvas, wholes, row):
    k = whole_within(wholes[0], 0, LAST_TEXTURE)
    log = whole_within(wholes[1], 0, LARGEST_LOG)
    canvas.textures[k] = Texture(log, colours_from_bytes(row))
    return [0]


def call_matrix(canvas, wholes, row):
    canvas.matrix = singles_within(row, FARTHEST)
    return [0]


def call_view(canvas, wholes, row):
    canvas.view = singles_within(row, FARTHEST)
    return [0]


def call_points(canvas, wholes, row):
    whole_within(wholes[0], 0, MOST_POINTS)
    return moved_points(canvas.matrix, canvas.view, singles_within(row, FARTHEST))


def call_light(canvas, wholes, row):
    canvas.light = singles_within(row, BRIGHTEST)
    return [0]


def call_normals(canvas, wholes, row):
    whole_within(wholes[0], 0, MOST_POINTS)
    return lit_normals(canvas.light, singles_within(row, LONGEST_NORMAL))


# By the number of a call: what answers it, how many whole numbers it has, and
# whether a row follows them.
HANDLERS = (
    call_init, call_clear, call_texture, call_matrix, call_view, call_points, call_light, call_normals,
)
WHOLES = (2, 2, 2, 0, 0, 1, 0, 1)
HAS_ROW = (False, False, True, True, True, True, True, True)


def end_of_call(calls, start):
    number = calls[start]
    end = start + 1 + WHOLES[number]
    if HAS_ROW[number]:
        end = end + 1 + calls[end]
    return end


def answer_of(canvas, call):
    number = call[0]
    wholes_end = 1 + WHOLES[number]
    row = call[wholes_end + 1:] if HAS_ROW[number] else []
    try:
        return HANDLERS[number](canvas, call[1:wholes_end], row)
    except Refused:
        return [-1]


def answers(calls):
    canvas = Canvas()
    told = []
    start = 0
    while start < len(calls):
        end = end_of_call(calls, start)
        answer = answer_of(canvas, calls[start:end])
        told.append(len(answer))
        told.extend(answer)
        start = end
    return told
