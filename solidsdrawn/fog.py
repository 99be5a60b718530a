"""The fog: how much of a colour is left at a depth."""

from solidsdrawn.colours import fogged_colour
from solidsdrawn.singles import plus, power_of_two, quotient, times, whole_from_single

CLEAR = 128


class Fog:
    def __init__(self, colour, near, far):
        self.colour = colour
        self.far = far
        self.scale = quotient(CLEAR * power_of_two(0), plus(far, -near))


def clearness(fog, depth):
    share = whole_from_single(times(plus(fog.far, -depth), fog.scale))
    return max(0, min(share, CLEAR))


def colour_in_fog(fog, colour, depth):
    if fog is None:
        return colour
    return fogged_colour(fog.colour, colour, clearness(fog, depth))
