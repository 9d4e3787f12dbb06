"""Loops of whole points: their sides, clashes, and where points are; without checks."""

from itertools import combinations

from gridshapes.corners import lowest_first, twice_by
from gridshapes.numbers import cross, dot, vector_from


def loop_sides(loop):
    """The pairs of the two ends of each side."""
    return list(zip(loop, [*loop[1:], loop[0]]))


def are_neighbours(i, j, many):
    """Whether sides, or corners, i and j, i less than j, of so many are next to each other."""
    return j == i + 1 or (i == 0 and j == many - 1)


def turn_at(one, corner, other):
    """Above 0 if the way from the one over the corner to the other turns left there, below 0 if right."""
    return cross(vector_from(one, corner), vector_from(corner, other))


def is_on(side, point):
    """Whether a point is on a side, perhaps of no length."""
    one, other = side
    return turn_at(one, point, other) == 0 and dot(vector_from(point, one), vector_from(point, other)) <= 0


def do_meet(side, other):
    """Whether two sides have a point in common."""
    if is_on(side, other[0]) or is_on(side, other[1]) or is_on(other, side[0]) or is_on(other, side[1]):
        return True
    # Where no end of one is on the other, they meet just if each has its ends on both sides of the other one's line.
    return (turn_at(side[0], side[1], other[0]) * turn_at(side[0], side[1], other[1]) < 0
            and turn_at(other[0], other[1], side[0]) * turn_at(other[0], other[1], side[1]) < 0)


def do_fold(one, corner, other):
    """Whether two sides from a corner have another point in common."""
    way, other_way = vector_from(corner, one), vector_from(corner, other)
    return cross(way, other_way) == 0 and dot(way, other_way) > 0


def do_clash(loop, sides, i, j):
    if i == j:
        return sides[i][0] == sides[i][1]
    if not are_neighbours(i, j, len(sides)):
        return do_meet(sides[i], sides[j])
    if j == i + 1:
        return do_fold(loop[i], loop[j], sides[j][1])
    return do_fold(loop[j], loop[i], loop[i + 1])


def clashes_of(loop):
    """All clashes, ascending."""
    sides = loop_sides(loop)
    pairs = [(i, i) for i in range(len(sides))] + list(combinations(range(len(sides)), 2))
    return [(i, j) for i, j in sorted(pairs) if do_clash(loop, sides, i, j)]


def told_loop(points):
    """The simple shape of a loop without a clash, counterclockwise or not, as it is told."""
    row = list(points)
    if twice_by(row) < 0:
        row = row[::-1]
    bent = [row[k] for k in range(len(row)) if turn_at(row[k - 1], row[k], row[k + 1 - len(row)]) != 0]
    return lowest_first(bent)


def side_of(side, triple):
    """Above 0 if a point, a triple, is left of a side, below 0 if right of it, 0 if it is on its line."""
    (x, y), (k, n) = side
    p, q, w = triple
    return cross((k - x, n - y), (p - w * x, q - w * y))


def is_triple_on(side, triple):
    """As is_on, of a fine point."""
    (x, y), (k, n) = side
    p, q, w = triple
    return side_of(side, triple) == 0 and dot((w * x - p, w * y - q), (w * k - p, w * n - q)) <= 0


def crosses_right(side, triple):
    """Whether the side has one end above the point's level, the other one not, and crosses it right of the point."""
    _, q, w = triple
    is_up, is_down = side[1][1] * w > q, side[0][1] * w > q
    if is_up == is_down:
        return False
    return side_of(side, triple) > 0 if is_up else side_of(side, triple) < 0


def is_owned(simple, triple):
    many = len([side for side in loop_sides(simple) if crosses_right(side, triple)])
    return many % 2 == 1


def sides_at(simple, triple):
    """The numbers of the sides on which a point is."""
    return [number for number, side in enumerate(loop_sides(simple)) if is_triple_on(side, triple)]


def place_by(simple, triple):
    if sides_at(simple, triple):
        return "rim"
    return "within" if is_owned(simple, triple) else "out"
