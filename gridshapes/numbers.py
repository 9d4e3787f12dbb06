"""Numbers, fractions, points and vectors, and the order of slopes."""

from math import gcd

from gridshapes.errors import NoNumber, NoPoint, NoVector
from gridshapes.ratios import reduced

POINT_MOST = 10 ** 60
VECTOR_MOST = 10 ** 61
VECTORS_MOST = 200


def is_number(value):
    return isinstance(value, int) and not isinstance(value, bool)


def is_number_pair(value):
    return isinstance(value, tuple) and len(value) == 2 and is_number(value[0]) and is_number(value[1])


def is_row(value, least, most):
    """Whether any value is a list or tuple of least to most things."""
    return isinstance(value, (list, tuple)) and least <= len(value) <= most


def is_fraction(value):
    return is_number_pair(value) and value[1] > 0 and gcd(value[0], value[1]) == 1


def is_point(value):
    return is_number_pair(value) and max(abs(value[0]), abs(value[1])) <= POINT_MOST


def is_fine_point(value):
    return isinstance(value, tuple) and len(value) == 2 and is_fraction(value[0]) and is_fraction(value[1])


def is_shift(value):
    return is_point(value) or is_fine_point(value)


def is_vector(value):
    return is_number_pair(value) and max(abs(value[0]), abs(value[1])) <= VECTOR_MOST


def is_direction(value):
    """Whether any value is a vector other than (0, 0) that may be handed in."""
    return is_vector(value) and value != (0, 0)


def is_paper_direction(value):
    """As is_direction, but of numbers of any size, as papers may have them."""
    return is_number_pair(value) and value != (0, 0)


def need_point(point):
    if not is_point(point):
        raise NoPoint(point)


def need_shift(shift):
    if not is_shift(shift):
        raise NoPoint(shift)


def need_vector(vector):
    if not is_vector(vector):
        raise NoVector(vector)


def need_direction(vector):
    if not is_direction(vector):
        raise NoVector(vector)


def fraction_of(top, bottom):
    if not is_number(top):
        raise NoNumber(top)
    if not is_number(bottom) or bottom == 0:
        raise NoNumber(bottom)
    return reduced(top, bottom)


def cross(one, other):
    return one[0] * other[1] - one[1] * other[0]


def dot(one, other):
    return one[0] * other[0] + one[1] * other[1]


def turned_about(vector):
    return (0 - vector[0], 0 - vector[1])


def vector_sum(one, other):
    return (one[0] + other[0], one[1] + other[1])


def vector_from(one, other):
    """The vector that leads from the one to the other."""
    return (other[0] - one[0], other[1] - one[1])


def is_upper(vector):
    return vector[1] > 0 or (vector[1] == 0 and vector[0] > 0)


def is_slope_ahead(one, other):
    if is_upper(one) != is_upper(other):
        return is_upper(one)
    return cross(one, other) > 0


def is_slope_alike(one, other):
    return cross(one, other) == 0 and dot(one, other) > 0


def bare_and_length(vector):
    length = gcd(vector[0], vector[1])
    return (vector[0] // length, vector[1] // length), length


def bare_of(vector):
    bare, _ = bare_and_length(vector)
    return bare


def comes_ahead(one, other):
    need_direction(one)
    need_direction(other)
    return is_slope_ahead(one, other)


def same_slope(one, other):
    need_direction(one)
    need_direction(other)
    return is_slope_alike(one, other)


def bare_vector(vector):
    need_direction(vector)
    return bare_of(vector)


def merged_by_slope(one, other):
    """Two rows of vectors by slope as one; of one slope those of the first row come first."""
    merged = []
    at = 0
    for vector in one:
        while at < len(other) and is_slope_ahead(other[at], vector):
            merged.append(other[at])
            at += 1
        merged.append(vector)
    merged.extend(other[at:])
    return merged


def sorted_by_slope(vectors):
    if len(vectors) < 2:
        return list(vectors)
    half = len(vectors) // 2
    return merged_by_slope(sorted_by_slope(vectors[:half]), sorted_by_slope(vectors[half:]))


def in_slopes(vectors):
    if not is_row(vectors, 0, VECTORS_MOST):
        raise NoVector(None)
    for vector in vectors:
        need_direction(vector)
    return tuple(sorted_by_slope(vectors))
