"""Fine points as triples: (x, y, w), three numbers in lowest terms, stand for (x / w, y / w), w above 0.

So a point is put to a wall, or onto a line, by whole numbers alone.
"""

from math import gcd, lcm

from gridshapes.corners import directions_by, do_rise, is_full
from gridshapes.numbers import bare_of
from gridshapes.ratios import NONE_OF_IT, greater_of, lesser_of, ratio_sum, reduced


def triple_of(p):
    """The triple of a point, or of a fine point."""
    if isinstance(p[0], int):
        return (p[0], p[1], 1)
    (a, b), (c, d) = p
    common = lcm(b, d)
    return (a * (common // b), c * (common // d), common)


def lowest_terms(x, y, w):
    common = gcd(gcd(x, y), w)
    return (x // common, y // common, w // common)


def triples_of(corners):
    return [triple_of(corner) for corner in corners]


def fine_point_of(triple):
    x, y, w = triple
    return (reduced(x, w), reduced(y, w))


def fine_points_of(triples):
    return tuple([fine_point_of(triple) for triple in triples])


def triple_sum(one, other):
    x, y, w = one
    a, b, c = other
    return lowest_terms(x * c + a * w, y * c + b * w, w * c)


def triple_from(one, other):
    """What leads from the one to the other, as a triple."""
    x, y, w = one
    return triple_sum(other, (0 - x, 0 - y, w))


def mean_of(triples):
    total = (0, 0, 1)
    for triple in triples:
        total = triple_sum(total, triple)
    return lowest_terms(total[0], total[1], total[2] * len(triples))


def twice_at(triples):
    """Twice the area, a fraction; 0 of no corners."""
    total = NONE_OF_IT
    for (x, y, w), (a, b, c) in zip(triples, triples[1:] + triples[:1]):
        total = ratio_sum(total, reduced(x * b - y * a, w * c))
    return total


def is_lower(one, other):
    x, y, w = one
    a, b, c = other
    if y * c == b * w:
        return x * c < a * w
    return y * c < b * w


def from_lowest(triples):
    """The same row, going round from its lowest triple."""
    at = 0
    for k, triple in enumerate(triples):
        if is_lower(triple, triples[at]):
            at = k
    return triples[at:] + triples[:at]


def dot_at(u, triple):
    """The dot of a vector and a triple's point, as a fraction."""
    return reduced(u[0] * triple[0] + u[1] * triple[1], triple[2])


def greatest_end(u, triples):
    end = dot_at(u, triples[0])
    for triple in triples:
        end = greater_of(end, dot_at(u, triple))
    return end


def least_end(u, triples):
    end = dot_at(u, triples[0])
    for triple in triples:
        end = lesser_of(end, dot_at(u, triple))
    return end


def whole_sides(triples):
    """Bare vectors along the sides: their slopes and directions are all that walls need."""
    if len(triples) == 1:
        return ()
    steps = [triple_from(one, other) for one, other in zip(triples, triples[1:] + triples[:1])]
    return tuple([(x, y) if (x, y) == (0, 0) else bare_of((x, y)) for x, y, _ in steps])


def do_turn_round(triples):
    """Whether they are corners counterclockwise from the lowest one, no three in a line."""
    return do_rise(whole_sides(triples))


def fine_borders_by(triples):
    """The walls of a fine shape with these corners."""
    directions = directions_by(whole_sides(triples))
    if is_full(triples):
        return tuple([(u, dot_at(u, triple)) for u, triple in zip(directions, triples)])
    return tuple([(u, greatest_end(u, triples)) for u in directions])


def over(wall, triple):
    """Below 0 if the dot with the wall's vector is less than its fraction, 0 if it is that, otherwise above 0."""
    (a, b), (top, bottom) = wall
    return bottom * (a * triple[0] + b * triple[1]) - top * triple[2]


def place_among(walls, has_inside, triple):
    """Where a point is in the shape of these walls, full or not: "within", "rim" or "out"."""
    greatest = max([over(wall, triple) for wall in walls])
    if greatest > 0:
        return "out"
    return "within" if has_inside and greatest < 0 else "rim"
