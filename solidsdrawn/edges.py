"""The edges of a triangle: on which side of them pixels lie, and which pixels of a row are within all three.

Places are in sixteenths of a pixel.
"""

from solidsdrawn.singles import whole_from_single

PIXEL = 16
MIDDLE = 8


def place_from_single(number):
    return whole_from_single(PIXEL * number)


# D(A, B, P): above 0 where the place (x, y) lies on the triangle's side of the
# edge from a to b, 0 on the edge itself.
def side_of(a, b, x, y):
    return (b.x - a.x) * (y - a.y) - (b.y - a.y) * (x - a.x)


def is_own(a, b):
    return b.y > a.y or (b.y == a.y and b.x < a.x)


class Edge:
    def __init__(self, a, b):
        self.a = a
        self.b = b
        # By how much D falls from a pixel to the next one of its row.
        self.fall = PIXEL * (b.y - a.y)
        # D is whole, so it is above 0 where it is at least 1.
        self.least = 0 if is_own(a, b) else 1

    def side_at_row(self, j):
        return side_of(self.a, self.b, MIDDLE, PIXEL * j + MIDDLE)


# In both defs below, sides are the three D of the row's first pixel. Where an
# edge rises along the row, it bounds the row's first pixel, where it falls the
# last one, and a level one lets all of the row be drawn or none.
def first_in_row(edges, sides):
    first = 0
    for edge, side in zip(edges, sides):
        if edge.fall < 0:
            first = max(first, -((side - edge.least) // -edge.fall))
    return first


def last_in_row(edges, sides, width):
    last = width - 1
    for edge, side in zip(edges, sides):
        if edge.fall > 0:
            last = min(last, (side - edge.least) // edge.fall)
        elif edge.fall == 0 and side < edge.least:
            last = -1
    return last
