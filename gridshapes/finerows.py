"""The rows of fine shapes, told by their corners as triples, and the grid points of fine stretches; without checks.

The right lines of a shape have in each row the x one behind the last grid point, its left lines 0 less the x of the
first one (gridshapes.rowlines): both together how many there are.
"""

from math import gcd

from gridshapes.floors import first_whole
from gridshapes.ratios import rounded_up
from gridshapes.rowlines import all_in, worth_in
from gridshapes.triples import from_lowest, is_lower


def line_by(one, other):
    """Three numbers (a, b, c) without a common divisor: a x + b y is c on the line from the one to the other.

    The line leads along (b, 0 - a).
    """
    x, y, w = one
    k, n, v = other
    a, b, c = y * v - w * n, w * k - x * v, k * y - x * n
    common = gcd(gcd(a, b), c)
    return (a // common, b // common, c // common)


def is_below(one, other):
    return one[1] * other[2] < other[1] * one[2]


def turned_triples(triples):
    """The row of corners of all 0 - p."""
    return from_lowest([(0 - x, 0 - y, w) for x, y, w in triples])


def rows_up(low, high, is_top):
    """The first row of a side and the one behind its last; at a corner between two sides the upper one has the row."""
    first = rounded_up(low[1], low[2])
    return (first, high[1] // high[2] + 1) if is_top else (first, rounded_up(high[1], high[2]))


def right_line(low, high, is_top):
    first, end = rows_up(low, high, is_top)
    a, b, c = line_by(low, high)
    return (first, end, b, 0 - c - a, 0 - a)


def left_line(low, high, is_top):
    first, end = rows_up(low, high, is_top)
    a, b, c = line_by(low, high)
    return (first, end, 0 - b, c, 0 - a)


def level_lines(left, right):
    """The lines of a shape that lies in one row, or between two."""
    (x, y, w), (end_x, _, end_w) = left, right
    if y % w != 0:
        return ([], [])
    row = y // w
    return ([(row, row + 1, 0, end_x + end_w, end_w)], [(row, row + 1, 0, 0 - x, w)])


def row_lines(triples):
    """The right lines and the left lines, each by rows, only such as have rows; none of the empty shape."""
    if not triples:
        return ([], [])
    sides = list(zip(triples, triples[1:] + triples[:1]))
    rising = [(one, other) for one, other in sides if is_below(one, other)]
    falling = [(other, one) for one, other in sides if is_below(other, one)][::-1]
    if not rising:
        return level_lines(triples[0], triples[-1])
    rights = [right_line(low, high, k + 1 == len(rising)) for k, (low, high) in enumerate(rising)]
    lefts = [left_line(low, high, k + 1 == len(falling)) for k, (low, high) in enumerate(falling)]
    return ([line for line in rights if line[0] < line[1]], [line for line in lefts if line[0] < line[1]])


def grid_many(triples):
    """How many grid points there are."""
    rights, lefts = row_lines(triples)
    return all_in(rights + lefts)


def row_by(rights, lefts, y):
    """The first and the last x of row y, None if it has no grid points."""
    first, last = 0 - worth_in(lefts, y), worth_in(rights, y) - 1
    return (first, last) if first <= last else None


def first_row_from(rights, lefts, start):
    """The first row from start on that has a grid point, None without any."""
    for first, end, a, b, m in rights:
        for other_first, other_end, c, d, k in lefts:
            low, high = max(first, other_first, start), min(end, other_end)
            if low < high:
                steps = first_whole((0 - c, 0 - c * low - d, k), (a, a * low + b - m, m))
                if steps is not None and low + steps < high:
                    return low + steps
    return None


def whole_factors(a, b):
    """The greatest common divisor of two numbers, and what they, times which, sum to it."""
    x, y, next_x, next_y = 1, 0, 0, 1
    while b != 0:
        times = a // b
        a, b = b, a - times * b
        x, y, next_x, next_y = next_x, next_y, x - times * next_x, y - times * next_y
    return (a, x, y) if a > 0 else (0 - a, 0 - x, 0 - y)


def whole_point(triple):
    """The point at which a triple, in lowest terms, is; None if it is none of whole numbers."""
    x, y, w = triple
    return (x, y) if w == 1 else None


def steps_up(origin, step, triple):
    """From the origin to the triple's point: the number of steps, the fraction's top and its bottom, above 0."""
    x, y, w = triple
    if step[1] > 0:
        return (y - origin[1] * w, step[1] * w)
    return (x - origin[0] * w, step[0] * w)


def points_along(one, other):
    """The grid points of a fine stretch: None, or (first, step, many)."""
    if one == other:
        point = whole_point(one)
        return None if point is None else (point, (0, 0), 1)
    low, high = (other, one) if is_lower(other, one) else (one, other)
    a, b, c = line_by(low, high)
    divisor, k, n = whole_factors(a, b)
    if divisor > 1:
        return None
    origin, step = (k * c, n * c), (b, 0 - a)
    top, bottom = steps_up(origin, step, low)
    first = rounded_up(top, bottom)
    top, bottom = steps_up(origin, step, high)
    many = top // bottom - first + 1
    if many < 1:
        return None
    point = (origin[0] + first * step[0], origin[1] + first * step[1])
    return (point, step if many > 1 else (0, 0), many)


def rim_many(triples):
    """How many grid points are on the rim."""
    if not triples:
        return 0
    if len(triples) < 3:
        told = points_along(triples[0], triples[-1])
        return 0 if told is None else told[2]
    many = 0
    for one, other in zip(triples, triples[1:] + triples[:1]):
        told = points_along(one, other)
        if told is not None:
            # The end of a side is where the next one begins.
            many += told[2] - (0 if whole_point(other) is None else 1)
    return many
