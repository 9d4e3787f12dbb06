"""Areas, grid points and multiples of round shapes, told without going through grid points."""

from gridshapes.corners import is_full, side_row, twice_by
from gridshapes.counts import core_by, counted, length_by, rim_by, triple_by
from gridshapes.errors import NoCount
from gridshapes.numbers import (
    bare_and_length, cross, dot, is_number, need_direction, need_point, vector_from, vector_sum)
from gridshapes.ratios import middle_of, reduced
from gridshapes.rounds import need_shape

FOLD_MOST = 10 ** 30
MANY_MOST = 10 ** 60


def need_count(value, least, most):
    if not is_number(value) or not least <= value <= most:
        raise NoCount(value)


def twice_area(shape):
    need_shape(shape)
    return twice_by(shape)


def rim_of(shape):
    need_shape(shape)
    return rim_by(shape)


def core_of(shape):
    need_shape(shape)
    return core_by(shape)


def points_in(shape):
    need_shape(shape)
    return rim_by(shape) + core_by(shape)


def length_of(vector):
    need_direction(vector)
    return length_by(vector)


def point_along(corner, bare, steps):
    return (corner[0] + steps * bare[0], corner[1] + steps * bare[1])


def rim_point(shape, number):
    need_shape(shape)
    need_count(number, 0, rim_by(shape) - 1)
    left = number
    for corner, side in zip(shape, side_row(shape)):
        bare, length = bare_and_length(side)
        # The last point of a stretch is the end of its first side, where its second one begins.
        if left < length:
            return point_along(corner, bare, left)
        left -= length
    return shape[0]


def steps_to(corner, bare, point):
    """How many times the bare vector leads from the corner to the point, None if none does."""
    way = vector_from(corner, point)
    if cross(bare, way) != 0:
        return None
    return dot(bare, way) // dot(bare, bare)


def rim_number(shape, point):
    need_shape(shape)
    need_point(point)
    if len(shape) == 1:
        return 0 if point == shape[0] else None
    ahead = 0
    for corner, side in zip(shape, side_row(shape)):
        bare, length = bare_and_length(side)
        steps = steps_to(corner, bare, point)
        if steps is not None and 0 <= steps < length:
            return ahead + steps
        ahead += length
    return None


def multiple_of(shape, k):
    need_shape(shape)
    need_count(k, 0, FOLD_MOST)
    if k == 0:
        return ((0, 0),)
    return tuple([(k * x, k * y) for x, y in shape])


def counting_triple(shape):
    need_shape(shape)
    return triple_by(shape)


def points_in_multiple(shape, k):
    need_shape(shape)
    need_count(k, 0, FOLD_MOST)
    return counted(triple_by(shape), k)


def core_of_multiple(shape, k):
    need_shape(shape)
    need_count(k, 0, FOLD_MOST)
    if k == 0 or not is_full(shape):
        return 0
    a, b, c = triple_by(shape)
    return counted((a, 0 - b, c), k)


def least_fold(triple, many):
    """The least k whose k-fold has so many points at least; the triple is not that of a point shape."""
    high = 1
    while counted(triple, high) < many:
        high *= 2
    low = -1
    while high - low > 1:
        middle = (low + high) // 2
        if counted(triple, middle) < many:
            low = middle
        else:
            high = middle
    return high


def first_multiple(shape, many):
    need_shape(shape)
    need_count(many, 1, MANY_MOST)
    if len(shape) == 1:
        return 0 if many == 1 else None
    return least_fold(triple_by(shape), many)


def multiple_with(shape, many):
    k = first_multiple(shape, many)
    if k is None or counted(triple_by(shape), k) != many:
        return None
    return k


def full_centre(shape):
    twice = twice_by(shape)
    total = (0, 0)
    for one, other in zip(shape, [*shape[1:], shape[0]]):
        weight = cross(one, other)
        x, y = vector_sum(one, other)
        total = (total[0] + weight * x, total[1] + weight * y)
    return (reduced(total[0], 3 * twice), reduced(total[1], 3 * twice))


def centre_of(shape):
    need_shape(shape)
    if is_full(shape):
        return full_centre(shape)
    (x, y), (a, b) = shape[0], shape[-1]
    return (middle_of((x, 1), (a, 1)), middle_of((y, 1), (b, 1)))
