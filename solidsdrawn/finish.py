"""What is done to the finished picture: it fades, is softened, is marked. Depths stay."""

from solidsdrawn.colours import mean_colour, mixed_colour


def fade_colours(canvas, colour, by):
    canvas.colours = [mixed_colour(old, colour, by) for old in canvas.colours]


def means(first, second):
    return [mean_colour(x, y) for x, y in zip(first, second)]


# Past its end a row goes on with its last pixel, and the picture with its last row.
def soften_colours(canvas):
    width = canvas.width
    across = []
    for start in range(0, len(canvas.colours), width):
        row = canvas.colours[start:start + width]
        across.extend(means(row, row[1:] + row[-1:]))
    canvas.colours = means(across, across[width:] + across[-width:])


def mark_pixels(canvas, numbers, colour):
    marked = 0
    for start in range(0, len(numbers), 2):
        x = numbers[start]
        y = numbers[start + 1]
        if canvas.has_pixel(x, y):
            canvas.colours[canvas.place_of(x, y)] = colour
            marked = marked + 1
    return marked
