"""Simple shapes at random, and a second way of reckoning with them, apart from the program."""

import itertools
from fractions import Fraction

from tests.reckon import SQUARE, common, cross, dot, hull, less, place

BENT = ((0, 0), (2, 0), (2, 1), (1, 1), (1, 2), (0, 2))
DART = ((0, 0), (4, 1), (1, 1), (1, 4))
COMB = ((0, 0), (9, 0), (9, 3), (8, 3), (8, 1), (5, 1), (5, 3), (4, 3), (4, 1), (1, 1), (1, 3), (0, 3))
STAR = ((0, -6), (2, -2), (6, -2), (3, 1), (4, 5), (0, 3), (-4, 5), (-3, 1), (-6, -2), (-2, -2))
TRIANGLE = ((0, 0), (2, 0), (0, 2))
OUTLINES = (SQUARE, TRIANGLE, BENT, DART, COMB, STAR)


def sides_of(loop):
    return list(zip(loop, loop[1:] + loop[:1]))


def second_clashes(loop):
    """By what the hulls of any two sides have in common."""
    loop = tuple(loop)
    sides = sides_of(loop)
    clashes = [(k, k) for k, (a, b) in enumerate(sides) if a == b]
    for i, j in itertools.combinations(range(len(sides)), 2):
        part = common([hull(sides[i]), hull(sides[j])])
        if part is None:
            continue
        corner = None
        if j == i + 1:
            corner = loop[j]
        elif (i, j) == (0, len(sides) - 1):
            corner = loop[0]
        if part != (corner,):
            clashes.append((i, j))
    return sorted(clashes)


def twice(loop):
    return sum(cross(a, b) for a, b in sides_of(tuple(loop)))


def second_simple(loop):
    """The told form of a loop without a clash."""
    row = list(loop) if twice(loop) > 0 else list(loop)[::-1]
    many = len(row)
    row = [row[k] for k in range(many) if cross(less(row[k], row[k - 1]), less(row[(k + 1) % many], row[k])) != 0]
    first = min(row, key=lambda p: (p[1], p[0]))
    return tuple(row[row.index(first):] + row[:row.index(first)])


def where(outline, p):
    """Where a point of Fractions is, by the sides above it."""
    above = 0
    for a, b in sides_of(outline):
        if place(hull((a, b)), p) != "out":
            return "rim"
        if (a[0] > p[0]) != (b[0] > p[0]):
            y = a[1] + Fraction((p[0] - a[0]) * (b[1] - a[1])) / (b[0] - a[0])
            above += y > p[1]
    return "within" if above % 2 else "out"


def owned(outline, p):
    """Whether the point, led to the right by a small bit and up by a far smaller one, is within."""
    return where(outline, (p[0] + Fraction(1, 10 ** 400), p[1] + Fraction(1, 10 ** 1200))) == "within"


def first_crossing(row):
    """The numbers of two sides without a common corner that meet, or of two neighbours in a line; None without any."""
    sides = sides_of(row)
    for i, j in itertools.combinations(range(len(row)), 2):
        (a, b), (c, d) = sides[i], sides[j]
        if {a, b} & {c, d}:
            if cross(less(b, a), less(d, c)) == 0:
                return (i, j)
            continue
        turns = [cross(less(b, a), less(c, a)), cross(less(b, a), less(d, a)),
                 cross(less(d, c), less(a, c)), cross(less(d, c), less(b, c))]
        signs = [(turn > 0) - (turn < 0) for turn in turns]
        apart = max(a[0], b[0]) < min(c[0], d[0]) or max(c[0], d[0]) < min(a[0], b[0]) or (
            max(a[1], b[1]) < min(c[1], d[1]) or max(c[1], d[1]) < min(a[1], b[1]))
        if signs[0] * signs[1] <= 0 and signs[2] * signs[3] <= 0 and not apart:
            return (i, j)
    return None


def untangled(points):
    """The points as a simple loop, as far as turning about parts between crossing sides leads there; or None."""
    row = list(points)
    for _ in range(60):
        pair = first_crossing(row)
        if pair is None:
            return row
        i, j = pair
        row[i + 1:j + 1] = row[i + 1:j + 1][::-1]
    return None


def random_simple(rng, many, size=6):
    """A simple shape with up to so many corners, at random."""
    while True:
        points = {(rng.randint(0, size), rng.randint(0, size)) for _ in range(many)}
        if len(points) > 2:
            row = untangled(sorted(points, key=lambda p: rng.random()))
            if row is not None and twice(row) != 0:
                return second_simple(row)


def inside_of(loop, p):
    return where(loop, p) == "within"


def cells(outlines):
    """Points of Fractions, one within each cell into which the sides and the uprights through their ends part all."""
    lines = [side for outline in outlines for side in sides_of(outline)]
    across = {Fraction(x) for outline in outlines for x, _ in outline}
    for (a, b), (c, d) in itertools.combinations(lines, 2):
        u, v = less(b, a), less(d, c)
        if cross(u, v) != 0:
            m = Fraction(cross(less(c, a), v), cross(u, v))
            across.add(a[0] + m * u[0])
    across = sorted(across)
    points = []
    for left, right in zip(across, across[1:]):
        x = (left + right) / 2
        levels = set()
        for a, b in lines:
            if min(a[0], b[0]) < x < max(a[0], b[0]):
                levels.add(a[1] + (x - a[0]) * Fraction(b[1] - a[1], b[0] - a[0]))
        levels = sorted(levels)
        points += [(x, (low + high) / 2) for low, high in zip(levels, levels[1:])]
    return points


def do_part(outline, pieces):
    """Whether at each place just one piece is where the shape is, and none where it is not."""
    for p in cells([outline, *pieces]):
        if sum(inside_of(piece, p) for piece in pieces) != int(inside_of(outline, p)):
            return False
    return True


def second_diagonals(outline):
    """By all crossings of the stretch with the sides' lines, and the places between them."""
    many = len(outline)
    found = []
    for i, j in itertools.combinations(range(many), 2):
        if j == i + 1 or (i, j) == (0, many - 1):
            continue
        a, way = outline[i], less(outline[j], outline[i])
        moments = {Fraction(0), Fraction(1)}
        for c, d in sides_of(outline):
            v = less(d, c)
            if cross(way, v) != 0:
                moments.add(Fraction(cross(less(c, a), v), cross(way, v)))
        for corner in outline:
            if cross(less(corner, a), way) == 0:
                moments.add(Fraction(dot(less(corner, a), way), dot(way, way)))
        moments = sorted(m for m in moments if 0 <= m <= 1)
        trials = moments[1:-1] + [(m + n) / 2 for m, n in zip(moments, moments[1:])]
        if all(inside_of(outline, (a[0] + m * way[0], a[1] + m * way[1])) for m in trials):
            found.append((i, j))
    return found
