"""Triangles, filled with a texture seen in perspective, lit and in the fog."""

from solidsdrawn.colours import lit_colour
from solidsdrawn.edges import Edge, first_in_row, last_in_row, place_from_single, side_of
from solidsdrawn.fog import colour_in_fog
from solidsdrawn.pixels import draw_pixel, is_hidden
from solidsdrawn.singles import cut_from_single, kept_whole, quotient, three_products, times, whole_from_single

ONE_SIDED = 4
WAYS = 4
BRIGHTEST = 256


class Corner:
    def __init__(self, numbers):
        self.x = place_from_single(numbers[0])
        self.y = place_from_single(numbers[1])
        self.depth = numbers[2]
        self.r = numbers[3]
        self.ur = times(numbers[4], self.r)
        self.vr = times(numbers[5], self.r)
        self.light = numbers[6]


def area_of(corners):
    return side_of(corners[0], corners[1], corners[2].x, corners[2].y)


class Triangle:
    def __init__(self, corners, texture, how):
        a = corners[0]
        b = corners[1]
        c = corners[2]
        self.area = kept_whole(area_of(corners))
        self.edges = [Edge(b, c), Edge(c, a), Edge(a, b)]
        self.depths = [corner.depth for corner in corners]
        self.rs = [corner.r for corner in corners]
        self.urs = [corner.ur for corner in corners]
        self.vrs = [corner.vr for corner in corners]
        self.lights = [corner.light for corner in corners]
        self.texture = texture
        self.way = how % WAYS


def texel_index(number, texture):
    return cut_from_single(number << texture.log) % texture.side


def texel_at(triangle, shares):
    texture = triangle.texture
    r = three_products(shares, triangle.rs)
    u = quotient(three_products(shares, triangle.urs), r)
    v = quotient(three_products(shares, triangle.vrs), r)
    return texture.colours[texture.side * texel_index(v, texture) + texel_index(u, texture)]


def brightness_at(triangle, shares):
    brightness = whole_from_single(BRIGHTEST * three_products(shares, triangle.lights))
    return max(0, min(brightness, BRIGHTEST))


def colour_at(triangle, shares, fog, depth):
    colour = lit_colour(texel_at(triangle, shares), brightness_at(triangle, shares))
    return colour_in_fog(fog, colour, depth)


# The shares are how much each corner counts for the pixel: a, b and c.
def draw_shares(canvas, triangle, place, shares):
    depth = three_products(shares, triangle.depths)
    if is_hidden(canvas, place, depth):
        return 0
    colour = colour_at(triangle, shares, canvas.fog, depth)
    return draw_pixel(canvas, place, colour, depth, triangle.way)


def draw_row(canvas, triangle, j):
    edges = triangle.edges
    sides = [edge.side_at_row(j) for edge in edges]
    drawn = 0
    for i in range(first_in_row(edges, sides), last_in_row(edges, sides, canvas.width) + 1):
        shares = [quotient(kept_whole(side - edge.fall * i), triangle.area) for edge, side in zip(edges, sides)]
        drawn = drawn + draw_shares(canvas, triangle, canvas.place_of(i, j), shares)
    return drawn


def draw_triangle(canvas, texture, how, corners):
    area = area_of(corners)
    if area == 0 or (area < 0 and how >= ONE_SIDED):
        return 0
    if area < 0:
        corners = [corners[0], corners[2], corners[1]]
    triangle = Triangle(corners, texture, how)
    drawn = 0
    for j in range(canvas.height):
        drawn = drawn + draw_row(canvas, triangle, j)
    return drawn
