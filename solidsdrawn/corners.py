"""Points moved by the matrix and brought to the view, normals lit."""

from solidsdrawn.singles import plus, power_of_two, reciprocal, reciprocal_root, three_products, times

ZEROS = (0, 0, 0, 0)


def threes(numbers):
    return [numbers[start:start + 3] for start in range(0, len(numbers), 3)]


def row_at(matrix, row, point):
    start = 4 * row
    return plus(three_products(matrix[start:start + 3], point), matrix[start + 3])


def is_behind(matrix, point):
    return row_at(matrix, 3, point) < power_of_two(-10)


def seen_point(matrix, view, point):
    r = reciprocal(row_at(matrix, 3, point))
    x = times(row_at(matrix, 0, point), r)
    y = times(row_at(matrix, 1, point), r)
    z = times(row_at(matrix, 2, point), r)
    return [plus(view[0], times(x, view[2])), plus(view[1], times(y, view[3])), z, r]


def moved_points(matrix, view, numbers):
    seen = 0
    moved = []
    for point in threes(numbers):
        if is_behind(matrix, point):
            moved.extend(ZEROS)
        else:
            seen = seen + 1
            moved.extend(seen_point(matrix, view, point))
    return [seen] + moved


def lit_normal(light, normal):
    square = three_products(normal, normal)
    if square < power_of_two(-20):
        return list(ZEROS)
    q = reciprocal_root(square)
    unit = [times(number, q) for number in normal]
    brightness = three_products(unit, light)
    return unit + [max(0, min(brightness, power_of_two(0)))]


def lit_normals(light, numbers):
    lit = []
    for normal in threes(numbers):
        lit.extend(lit_normal(light, normal))
    return [0] + lit
