"""Sums of round shapes, what can be taken off them, even shapes, mixed and breadth."""

from gridshapes.corners import (
    added_corners, corners_by, greatest_dot, joined_sides, side_row, turned_corners, twice_by)
from gridshapes.errors import NoShape, NoVector, TooMany
from gridshapes.numbers import (
    bare_and_length, is_direction, is_number, is_number_pair, is_row, is_upper, need_direction, need_point,
    sorted_by_slope, turned_about, vector_from)
from gridshapes.papers import are_number_pairs, has_word
from gridshapes.rounds import CORNERS_MOST, is_round, need_shape

SHAPES_MOST = 12
STRETCHES_MOST = 30


def told_corners(corners):
    """The corners, if a shape may be told by so many."""
    if len(corners) > CORNERS_MOST:
        raise TooMany(CORNERS_MOST)
    return corners


def sum_of(one, other):
    need_shape(one)
    need_shape(other)
    return told_corners(added_corners(one, other))


def need_shapes(shapes, most):
    if not is_row(shapes, 1, most):
        raise NoShape(None)
    for index, shape in enumerate(shapes):
        if not is_round(shape):
            raise NoShape(index)


def sum_of_all(shapes):
    need_shapes(shapes, SHAPES_MOST)
    corners = ((0, 0),)
    for shape in shapes:
        corners = added_corners(corners, shape)
    return told_corners(corners)


def opposite_of(shape):
    need_shape(shape)
    return turned_corners(shape)


def lengths_by(shape):
    """The dict from the bare vectors of the sides, in order, to their lengths."""
    return dict([bare_and_length(side) for side in side_row(shape)])


def first_short(whole, part):
    """The bare vector of the first side of the part that is longer than the whole's, None without any."""
    lengths = lengths_by(whole)
    for bare, length in lengths_by(part).items():
        if lengths.get(bare, 0) < length:
            return bare
    return None


def rest_by(whole, part):
    """The rest, None if there is none."""
    if first_short(whole, part) is not None:
        return None
    taken = lengths_by(part)
    sides = []
    for (x, y), length in lengths_by(whole).items():
        left = length - taken.get((x, y), 0)
        if left > 0:
            sides.append((left * x, left * y))
    return corners_by(vector_from(part[0], whole[0]), sides)


def rest_of(whole, part):
    need_shape(whole)
    need_shape(part)
    return rest_by(whole, part)


def how_often(whole, part):
    need_shape(whole)
    need_shape(part)
    lengths = lengths_by(whole)
    times = [lengths.get(bare, 0) // length for bare, length in lengths_by(part).items()]
    return min(times, default=None)


def rest_paper(whole, part):
    need_shape(whole)
    need_shape(part)
    bare = first_short(whole, part)
    if bare is None:
        return ("rest", rest_by(whole, part))
    return ("short", bare, lengths_by(whole).get(bare, 0), lengths_by(part)[bare])


def is_right_short(whole, part, paper):
    _, bare, length, due = paper
    if not is_number_pair(bare) or not is_number(length) or not is_number(due):
        return False
    if lengths_by(part).get(bare) != due or lengths_by(whole).get(bare, 0) != length:
        return False
    return length < due


def accepts_rest(whole, part, paper):
    need_shape(whole)
    need_shape(part)
    if has_word(paper, "rest", 2):
        return are_number_pairs(paper[1]) and paper[1] == rest_by(whole, part)
    return has_word(paper, "short", 4) and is_right_short(whole, part, paper)


def upper_sides(shape):
    return tuple([side for side in side_row(shape) if is_upper(side)])


def is_even_by(shape):
    sides = side_row(shape)
    return all([turned_about(side) in sides for side in sides])


def is_even(shape):
    need_shape(shape)
    return is_even_by(shape)


def stretches_of(shape):
    need_shape(shape)
    return upper_sides(shape) if is_even_by(shape) else None


def sum_of_stretches(point, vectors):
    need_point(point)
    if not is_row(vectors, 0, STRETCHES_MOST):
        raise NoVector(None)
    for index, vector in enumerate(vectors):
        if not is_direction(vector):
            raise NoVector(index)
    upper = [vector if is_upper(vector) else turned_about(vector) for vector in vectors]
    sides = joined_sides(sorted_by_slope(upper))
    return corners_by(point, sides + [turned_about(side) for side in sides])


def mixed_of(one, other):
    need_shape(one)
    need_shape(other)
    return twice_by(added_corners(one, other)) - twice_by(one) - twice_by(other)


def breadth_of(shape, u):
    need_shape(shape)
    need_direction(u)
    return greatest_dot(shape, u) + greatest_dot(shape, turned_about(u))
