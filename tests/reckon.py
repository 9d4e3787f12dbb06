"""A second way of reckoning, apart from the program: by fractions.Fraction and by going through all."""

import math
import random
from fractions import Fraction

BIG = 10 ** 60

POINT = ((0, 0),)
SPOT = ((3, -2),)
STRETCH = ((0, 0), (4, 2))
LEVEL = ((-1, 1), (2, 1))
UPRIGHT = ((1, -1), (1, 4))
SQUARE = ((0, 0), (1, 0), (1, 1), (0, 1))
WEDGE = ((0, 0), (4, 0), (0, 3))
KITE = ((0, -2), (3, 0), (0, 4), (-3, 0))
SIX = ((0, 0), (2, 0), (3, 1), (3, 3), (1, 3), (0, 2))
FLAT = ((-5, 0), (4, 1), (7, 3))
SHAPES = (POINT, SPOT, STRETCH, LEVEL, UPRIGHT, SQUARE, WEDGE, KITE, SIX, FLAT)
FULL_SHAPES = (SQUARE, WEDGE, KITE, SIX, FLAT)
GREAT = ((-BIG, -BIG), (BIG, -BIG), (BIG, BIG), (-BIG, BIG))

FINE_TRIANGLE = (((0, 1), (0, 1)), ((5, 3), (0, 1)), ((0, 1), (5, 4)))
FINE_STRETCH = (((1, 2), (1, 3)), ((-1, 2), (1, 1)))
FINE_POINT = (((-7, 3), (1, 6)),)


def cross(a, b):
    return a[0] * b[1] - a[1] * b[0]


def dot(a, b):
    return a[0] * b[0] + a[1] * b[1]


def plus(a, b):
    return (a[0] + b[0], a[1] + b[1])


def less(a, b):
    return (a[0] - b[0], a[1] - b[1])


def pair(value):
    """A Fraction, or an int, as the program tells a fraction."""
    value = Fraction(value)
    return (value.numerator, value.denominator)


def fraction(told):
    return Fraction(told[0], told[1])


def fine(point):
    """A point of Fractions as a fine point."""
    return (pair(point[0]), pair(point[1]))


def fractions(point):
    """A point or a fine point as a pair of Fractions."""
    if isinstance(point[0], tuple):
        return (fraction(point[0]), fraction(point[1]))
    return (Fraction(point[0]), Fraction(point[1]))


def corners_of(told):
    """A round or fine shape as a list of pairs of Fractions; None as []."""
    return [] if told is None else [fractions(corner) for corner in told]


def hull(points):
    """The corners counterclockwise from the lowest one: those that no turn goes round."""
    points = sorted(set(points))
    if len(points) == 1:
        return tuple(points)
    here = min(points, key=lambda p: (p[1], p[0]))
    corners = []
    while True:
        corners.append(here)
        best = None
        for p in points:
            if p == here:
                continue
            if best is None:
                best = p
                continue
            turn = cross(less(best, here), less(p, here))
            farther = dot(less(p, here), less(p, here)) > dot(less(best, here), less(best, here))
            if turn < 0 or (turn == 0 and farther):
                best = p
        here = best
        if here == corners[0]:
            return tuple(corners)


def place(corners, p):
    """Where a point of Fractions or ints is, by the turns from the sides to it."""
    if len(corners) == 1:
        return "rim" if p == corners[0] else "out"
    if len(corners) == 2:
        a, b = corners
        on_line = cross(less(b, a), less(p, a)) == 0
        return "rim" if on_line and 0 <= dot(less(p, a), less(b, a)) <= dot(less(b, a), less(b, a)) else "out"
    turns = [cross(less(b, a), less(p, a)) for a, b in zip(corners, corners[1:] + corners[:1])]
    if min(turns) < 0:
        return "out"
    return "within" if min(turns) > 0 else "rim"


def grid(corners):
    """The dict from all grid points in a shape of ints or Fractions to their places."""
    low_x, high_x = math.floor(min(x for x, _ in corners)), math.ceil(max(x for x, _ in corners))
    low_y, high_y = math.floor(min(y for _, y in corners)), math.ceil(max(y for _, y in corners))
    told = {}
    for y in range(low_y, high_y + 1):
        for x in range(low_x, high_x + 1):
            where = place(corners, (x, y))
            if where != "out":
                told[x, y] = where
    return told


def all_sums(one, other):
    return hull([plus(a, b) for a in one for b in other])


def differences(one, other):
    """All b - a: the stand shape."""
    return hull([less(b, a) for a in one for b in other])


def shifted(corners, shift):
    return tuple([plus(corner, shift) for corner in corners])


def lines_of(corners):
    """Pairs of a point and a vector along each side."""
    return [(a, less(b, a)) for a, b in zip(corners, corners[1:] + corners[:1])] if len(corners) > 1 else []


def common(shapes):
    """The hull of all corners that are in all shapes, and of all crossings of sides that are; None without any."""
    shapes = [tuple(fractions(corner) for corner in shape) for shape in shapes]
    found = [corner for shape in shapes for corner in shape]
    lines = [line for shape in shapes for line in lines_of(shape)]
    for k, (a, u) in enumerate(lines):
        for b, v in lines[:k]:
            if cross(u, v) != 0:
                m = cross(less(b, a), v) / cross(u, v)
                found.append((a[0] + m * u[0], a[1] + m * u[1]))
    found = [p for p in set(found) if all(place(shape, p) != "out" for shape in shapes)]
    return hull(found) if found else None


def word(one, other, shift):
    """The stand of the one at a shift of Fractions, by the common part alone."""
    part = common([shifted(one, shift), other])
    if part is None:
        return "apart"
    if len(one) > 2 and len(other) > 2 and len(part) > 2:
        return "overlap"
    return "touch"


def random_shape(rng, size=5, most=7):
    return hull([(rng.randint(-size, size), rng.randint(-size, size)) for _ in range(rng.randint(1, most))])


def random_full(rng, size=5, most=7):
    while True:
        shape = random_shape(rng, size, most)
        if len(shape) > 2:
            return shape


def random_shapes(seed, many, size=5, most=7):
    rng = random.Random(seed)
    return [random_shape(rng, size, most) for _ in range(many)]


def angle_sorted(vectors):
    """By turning from (1, 0): first the upper half, there by the tangents."""
    upper = [v for v in vectors if v[1] > 0 or (v[1] == 0 and v[0] > 0)]
    lower = [v for v in vectors if v not in upper]

    def key(v):
        return Fraction(-v[0], v[1]) if v[1] != 0 else Fraction(-(10 ** 70))
    return sorted(upper, key=key) + sorted(lower, key=key)


def cornered(many, scale=1, first=(0, 0)):
    """A round shape with just so many corners, 3 or more."""
    sides = [(1000, 1), (-1, 1000), (-999, -1001)] if many % 2 else []
    k = 1
    while len(sides) < many:
        sides += [(k, 1), (-k, -1)]
        k += 1
    corners = [first]
    for x, y in angle_sorted(sides)[:-1]:
        corners.append((corners[-1][0] + scale * x, corners[-1][1] + scale * y))
    return tuple(corners)


def scaled(shape, k, v=(0, 0)):
    return tuple([(k * x + v[0], k * y + v[1]) for x, y in shape])
