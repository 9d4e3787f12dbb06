"""Grid maps at random, values that are none, and a second way of reckoning with them."""

import itertools
from fractions import Fraction

from tests.reckon import BIG, cross, hull, less
from tests.wrong import ODD_THINGS

SAME = (1, 0, 0, 1, 0, 0)
OVER = (1, 0, 0, -1, 0, 0)
TURNED = (0, -1, 1, 0, 2, -5)
SLANT = (3, 2, 4, 3, -7, 9)
GREAT_MAP = (10 ** 90, 10 ** 90 + 1, 10 ** 90 - 1, 10 ** 90, 10 ** 200 - 1, -10 ** 150)
MAPS = (SAME, OVER, TURNED, SLANT, (0, 1, 1, 0, 0, 0), (-1, 0, 0, -1, 3, 4), (1, 5, 0, 1, -2, 0), (2, 1, 1, 0, 1, 1))

WRONG_MAPS = ODD_THINGS + (
    list(SAME), SAME[:5], SAME + (0,), (1, 0, 0, 2, 0, 0), (1, 1, 1, 1, 0, 0), (0, 0, 0, 0, 0, 0),
    (True, 0, 0, 1, 0, 0),
    (1, 0, 0, 1, False, 0), (1, 0, 0, 1, None, 0), (1.0, 0, 0, 1, 0, 0),
    ((1, 1), (0, 1), (0, 1), (1, 1), (0, 1), (0, 1)),
    ("1", 0, 0, 1, 0, 0), ((1, 0), (0, 1), (0, 0)), (2, 0, 0, -2, 0, 0), (10 ** 90, 1, 1, 10 ** 90, 0, 0),
    (BIG, 0, 0, BIG, 0, 0))


def random_map(rng, size=3, far=9):
    """Steps of slants and turns one behind the other."""
    grid = (1, 0, 0, 1)
    for _ in range(rng.randint(0, 4)):
        k = rng.randint(-size, size)
        grid = product(rng.choice(((1, k, 0, 1), (1, 0, k, 1), (0, -1, 1, 0), (1, 0, 0, -1))), grid)
    return grid + (rng.randint(-far, far), rng.randint(-far, far))


def product(one, other):
    """The numbers a, b, c, d of one behind the other one."""
    a, b, c, d = one
    e, f, g, h = other
    return (a * e + b * g, a * f + b * h, c * e + d * g, c * f + d * h)


def led(grid, p):
    a, b, c, d, e, f = grid
    return (a * p[0] + b * p[1] + e, c * p[0] + d * p[1] + f)


def led_shape(grid, shape):
    return hull([led(grid, p) for p in shape])


def solved(points, goals):
    """The map of Fractions that leads three points, not in a line, to three others."""
    (p, q, r), (k, m, n) = points, goals
    u, v = less(q, p), less(r, p)
    rows = []
    for at in (0, 1):
        s, t = m[at] - k[at], n[at] - k[at]
        a = Fraction(s * v[1] - t * u[1], cross(u, v))
        b = Fraction(u[0] * t - v[0] * s, cross(u, v))
        rows.append((a, b, k[at] - a * p[0] - b * p[1]))
    (a, b, e), (c, d, f) = rows
    return (a, b, c, d, e, f)


def is_grid(grid):
    return all(Fraction(part).denominator == 1 for part in grid) and abs(grid[0] * grid[3] - grid[1] * grid[2]) == 1


def second_maps(one, other):
    """All grid maps between full shapes: by each way to lead three corners to three, and all corners led."""
    found = set()
    for goals in itertools.permutations(other, 3):
        grid = solved(one[:3], goals)
        if is_grid(grid) and {led(grid, p) for p in one} == set(other):
            found.add(tuple(int(part) for part in grid))
    return found
