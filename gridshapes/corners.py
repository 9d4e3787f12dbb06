"""Round shapes as rows of whole corners, of any size and any number, without checks."""

from gridshapes.numbers import (
    bare_of, cross, dot, is_slope_ahead, is_slope_alike, merged_by_slope, turned_about, vector_from, vector_sum)

FOUR_WAYS = ((1, 0), (0, 1), (-1, 0), (0, -1))


def do_rise(sides):
    """Whether no side is (0, 0) and each one's slope is ahead of the next one's."""
    if (0, 0) in sides:
        return False
    return all([is_slope_ahead(one, other) for one, other in zip(sides, sides[1:])])


def side_row(corners):
    if len(corners) == 1:
        return ()
    return tuple([vector_from(one, other) for one, other in zip(corners, [*corners[1:], corners[0]])])


def corners_by(point, sides):
    """The corners from the lowest one on; the sides rise and sum to (0, 0)."""
    corners = [point]
    for side in sides[:-1]:
        corners.append(vector_sum(corners[-1], side))
    return tuple(corners)


def joined_sides(sides):
    """Sides by slope, neighbours of one slope put together to one."""
    joined = []
    for side in sides:
        if joined and is_slope_alike(joined[-1], side):
            joined[-1] = vector_sum(joined[-1], side)
        else:
            joined.append(side)
    return joined


def added_corners(one, other):
    sides = joined_sides(merged_by_slope(side_row(one), side_row(other)))
    return corners_by(vector_sum(one[0], other[0]), sides)


def lowest_first(corners):
    """The same row of corners, a list, going round from the lowest one."""
    at = corners.index(min(corners, key=lambda point: (point[1], point[0])))
    return tuple(corners[at:] + corners[:at])


def turned_corners(corners):
    """The corners of all 0 - p: the turn stays, only another one is the lowest."""
    return lowest_first([turned_about(corner) for corner in corners])


def moved_corners(corners, vector):
    return tuple([vector_sum(corner, vector) for corner in corners])


def greatest_dot(corners, u):
    return max([dot(corner, u) for corner in corners])


def least_dot(corners, u):
    return min([dot(corner, u) for corner in corners])


def directions_by(sides):
    """The directions of the walls of a shape with such sides, which may be any times as long."""
    if not sides:
        return FOUR_WAYS
    if len(sides) == 2:
        x, y = bare_of(sides[0])
        return ((y, 0 - x), (0 - y, x), (x, y), (0 - x, 0 - y))
    return tuple([bare_of((y, 0 - x)) for x, y in sides])


def is_full(corners):
    return len(corners) > 2


def borders_by(corners):
    """The walls, as told ones are: pairs of a direction and a fraction."""
    directions = directions_by(side_row(corners))
    if is_full(corners):
        # No other corner reaches farther than the two of a wall's own side.
        return tuple([(u, (dot(corner, u), 1)) for u, corner in zip(directions, corners)])
    return tuple([(u, (greatest_dot(corners, u), 1)) for u in directions])


def twice_by(corners):
    return sum([cross(one, other) for one, other in zip(corners, [*corners[1:], corners[0]])])
