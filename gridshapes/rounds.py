"""Round shapes, fine shapes, their sides, walls and places."""

from gridshapes.corners import (
    borders_by, corners_by, do_rise, greatest_dot, is_full, moved_corners, side_row)
from gridshapes.errors import NoFine, NoPoint, NoShape, NoVector
from gridshapes.numbers import (
    cross, is_fine_point, is_point, is_row, is_vector, need_point, need_shift, need_vector, vector_from)
from gridshapes.triples import (
    do_turn_round, fine_borders_by, fine_points_of, place_among, triple_of, triples_of)

CORNERS_MOST = 60
HULL_MOST = 12


def is_round(value):
    if not isinstance(value, tuple) or not is_row(value, 1, CORNERS_MOST):
        return False
    return all([is_point(corner) for corner in value]) and do_rise(side_row(value))


def is_fine_shape(value):
    if value is None:
        return True
    if not isinstance(value, tuple) or not is_row(value, 1, CORNERS_MOST):
        return False
    return all([is_fine_point(corner) for corner in value]) and do_turn_round(triples_of(value))


def need_shape(shape):
    if not is_round(shape):
        raise NoShape(shape)


def need_fine(fine):
    if not is_fine_shape(fine):
        raise NoFine(fine)


def need_triples(fine):
    """The corners of a fine shape as triples, [] of the empty one."""
    need_fine(fine)
    return [] if fine is None else triples_of(fine)


def left_chain(points):
    """The corners from the first point to the last one that turn left all the way."""
    chain = []
    for point in points:
        while len(chain) > 1 and cross(vector_from(chain[-2], chain[-1]), vector_from(chain[-1], point)) <= 0:
            chain.pop()
        chain.append(point)
    return chain


def hull_of(points):
    if not is_row(points, 1, HULL_MOST):
        raise NoPoint(None)
    for point in points:
        need_point(point)
    rows = sorted(points, key=lambda pair: (pair[1], pair[0]))
    unlike = [row for k, row in enumerate(rows) if k == 0 or row != rows[k - 1]]
    if len(unlike) == 1:
        return tuple(unlike)
    return tuple(left_chain(unlike)[:-1] + left_chain(unlike[::-1])[:-1])


def sides_of(shape):
    need_shape(shape)
    return side_row(shape)


def are_sides(value):
    """Whether any value is a row of sides of a round shape."""
    if not is_row(value, 0, CORNERS_MOST) or not all([is_vector(side) for side in value]):
        return False
    return do_rise(value) and sum([x for x, _ in value]) == 0 and sum([y for _, y in value]) == 0


def shape_by(point, sides):
    need_point(point)
    if not are_sides(sides):
        raise NoVector(sides)
    return corners_by(point, sides)


def moved(shape, shift):
    need_shape(shape)
    need_vector(shift)
    return moved_corners(shape, shift)


def reach(shape, u):
    need_shape(shape)
    need_vector(u)
    return greatest_dot(shape, u)


def walls_of(shape):
    need_shape(shape)
    return borders_by(shape)


def fine_of(shape):
    need_shape(shape)
    return fine_points_of(triples_of(shape))


def place_in(shape, p):
    need_shape(shape)
    need_shift(p)
    return place_among(borders_by(shape), is_full(shape), triple_of(p))


def fine_borders(fine):
    need_fine(fine)
    return () if fine is None else fine_borders_by(triples_of(fine))


def fine_place(fine, p):
    need_fine(fine)
    need_shift(p)
    if fine is None:
        return "out"
    return place_among(fine_borders_by(triples_of(fine)), is_full(fine), triple_of(p))
