"""What the calls leave for one another: the picture and all that is set for it."""

from solidsdrawn.limits import NoTexture
from solidsdrawn.singles import power_of_two

IDENTITY = (1, 0, 0, 0, 0, 1, 0, 0, 0, 0, 1, 0, 0, 0, 0, 1)
FIRST_VIEW = (0, 0, 1, 1)
FIRST_LIGHT = (0, 0, 0)
FIRST_COLOUR = (0, 0, 0, 0)


def small_singles(numbers):
    return [number * power_of_two(0) for number in numbers]


class Texture:
    def __init__(self, log, colours):
        self.log = log
        self.side = 1 << log
        self.colours = colours


class Canvas:
    # Nothing is asked ahead of the first init, so there are no pixels yet.
    def __init__(self):
        self.renew(0, 0)

    def renew(self, width, height):
        self.width = width
        self.height = height
        self.fill(FIRST_COLOUR, power_of_two(0))
        self.textures = {}
        self.matrix = small_singles(IDENTITY)
        self.view = small_singles(FIRST_VIEW)
        self.light = small_singles(FIRST_LIGHT)
        self.fog = None

    def fill(self, colour, depth):
        count = self.width * self.height
        self.colours = [colour] * count
        self.depths = [depth] * count

    def has_pixel(self, x, y):
        return 0 <= x < self.width and 0 <= y < self.height

    def place_of(self, x, y):
        return y * self.width + x

    def texture_at(self, k):
        if k not in self.textures:
            raise NoTexture()
        return self.textures[k]
