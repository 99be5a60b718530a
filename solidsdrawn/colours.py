"""Colours: tuples (blue, green, red, cover), so that pixels may share them."""


def colour_from_number(number):
    return (number & 255, (number >> 8) & 255, (number >> 16) & 255, number >> 24)


def colours_from_bytes(row):
    return [tuple(row[start:start + 4]) for start in range(0, len(row), 4)]


def bytes_from_colours(colours):
    row = []
    for colour in colours:
        row.extend(colour)
    return row


# The whole sum is rounded down, so a byte that goes down may go one further.
def mixed(x, y, k):
    return x + (y - x) * k // 128


def mixed_colour(x, y, k):
    return (mixed(x[0], y[0], k), mixed(x[1], y[1], k), mixed(x[2], y[2], k), mixed(x[3], y[3], k))


# Light and fog leave the cover as the texel has it.
def fogged_colour(fog, colour, k):
    return mixed_colour(fog, colour, k)[:3] + colour[3:]


def lit_colour(colour, brightness):
    return (colour[0] * brightness >> 8, colour[1] * brightness >> 8, colour[2] * brightness >> 8, colour[3])


def added_colour(x, y):
    return tuple([min(a + b, 255) for a, b in zip(x, y)])


def mean_colour(x, y):
    return tuple([(a + b + 1) // 2 for a, b in zip(x, y)])
