"""How far a round shape is shoved, along a way or any way, until it overlaps another one no more."""

from gridshapes.corners import FOUR_WAYS, greatest_dot, is_full
from gridshapes.errors import NoFloor, NoMenu, NoShape
from gridshapes.legs import shift_at, stand_borders
from gridshapes.numbers import (
    dot, is_direction, is_fine_point, is_fraction, is_row, need_direction, need_point, vector_sum)
from gridshapes.ratios import NONE_OF_IT, least_ratio, reduced, rounded_up
from gridshapes.rounds import is_round
from gridshapes.shifting import are_both_in, are_both_within, common_at, is_barring_line, shifted_triples
from gridshapes.triples import fine_point_of, mean_of, place_among, triple_of, triples_of

MENU_MOST = 12
FLOOR_MOST = 8
SLANT_WAYS = ((1, 1), (-1, 1), (-1, -1), (1, -1))


def is_full_round(value):
    return is_round(value) and is_full(value)


def need_full(shape):
    if not is_full_round(shape):
        raise NoShape(shape)


def need_shove(one, other, shift):
    need_full(one)
    need_full(other)
    need_point(shift)


def need_menu(menu):
    if not is_row(menu, 1, MENU_MOST):
        raise NoMenu(None)
    for index, way in enumerate(menu):
        if not is_direction(way):
            raise NoMenu(index)


def need_others(others):
    if not is_row(others, 0, FLOOR_MOST):
        raise NoFloor(None)
    for index, other in enumerate(others):
        if not is_full_round(other):
            raise NoFloor(index)


def deeps_at(borders, shift):
    """How deep a shift is behind each wall of a stand shape."""
    return [most - dot(u, shift) for u, (most, _) in borders]


def is_deep(borders, shift):
    """Whether both overlap at a shift, by the walls of their stand shape."""
    return min(deeps_at(borders, shift)) > 0


def leaving_rows(borders, shift, way):
    """Pairs of the moment at which the way from the shift comes to a wall from behind, and its direction."""
    rows = []
    for (u, _), deep in zip(borders, deeps_at(borders, shift)):
        speed = dot(u, way)
        if speed > 0:
            rows.append((reduced(deep, speed), u))
    return rows


def leaving_moment(borders, shift, way):
    return least_ratio([moment for moment, _ in leaving_rows(borders, shift, way)])


def shove_by(borders, shift, way):
    return leaving_moment(borders, shift, way) if is_deep(borders, shift) else NONE_OF_IT


def shove_along(one, other, shift, way):
    need_shove(one, other, shift)
    need_direction(way)
    return shove_by(stand_borders(one, other), shift, way)


def whole_shove(one, other, shift, way):
    top, bottom = shove_along(one, other, shift, way)
    return rounded_up(top, bottom)


def least_shove(one, other, shift, menu):
    need_shove(one, other, shift)
    need_menu(menu)
    borders = stand_borders(one, other)
    shoves = [shove_by(borders, shift, way) for way in menu]
    least = least_ratio(shoves)
    return (least, [index for index, shove in enumerate(shoves) if shove == least])


def push_by(u, deep):
    """The pair of the square of the length of the way straight to a wall, and this way."""
    x, y = u
    square = dot(u, u)
    return (reduced(deep * deep, square), (reduced(x * deep, square), reduced(y * deep, square)))


def least_push(one, other, shift):
    need_shove(one, other, shift)
    borders = stand_borders(one, other)
    if not is_deep(borders, shift):
        return (NONE_OF_IT, [])
    rows = [push_by(u, deep) for (u, _), deep in zip(borders, deeps_at(borders, shift))]
    least = least_ratio([square for square, _ in rows])
    return (least, [push for square, push in rows if square == least])


def walk_by(borders, shift, speeds, ways):
    """The pair of the number of steps and the first way by which so many steps do.

    The speeds are by how much one step can lead to each wall.
    """
    if not is_deep(borders, shift):
        return (0, None)
    number = min([rounded_up(deep, speed) for deep, speed in zip(deeps_at(borders, shift), speeds)])
    leading = [(x, y) for x, y in ways if not is_deep(borders, vector_sum(shift, (number * x, number * y)))]
    return (number, leading[0])


def least_walk(one, other, shift):
    need_shove(one, other, shift)
    borders = stand_borders(one, other)
    return walk_by(borders, shift, [max(abs(x), abs(y)) for (x, y), _ in borders], FOUR_WAYS)


def least_king_walk(one, other, shift):
    need_shove(one, other, shift)
    borders = stand_borders(one, other)
    return walk_by(borders, shift, [abs(x) + abs(y) for (x, y), _ in borders], SLANT_WAYS)


def first_overlapped(rows, shift):
    """The index of the first stand shape, told by its walls, that has the shift, a triple, within; None without any."""
    for index, borders in enumerate(rows):
        if place_among(borders, True, shift) == "within":
            return index
    return None


def first_free(one, others, shift, way):
    need_full(one)
    need_others(others)
    need_point(shift)
    need_direction(way)
    rows = [stand_borders(one, other) for other in others]
    moment = NONE_OF_IT
    chain = []
    index = first_overlapped(rows, triple_of(shift))
    while index is not None:
        chain.append(index)
        moment = leaving_moment(rows[index], shift, way)
        index = first_overlapped(rows, shift_at(shift, way, moment))
    return (moment, chain)


def shove_paper(one, other, shift, way):
    need_shove(one, other, shift)
    need_direction(way)
    borders = stand_borders(one, other)
    if not is_deep(borders, shift):
        return None
    least = leaving_moment(borders, shift, way)
    lines = [u for moment, u in leaving_rows(borders, shift, way) if moment == least]
    inside = mean_of(common_at(one, other, triple_of(shift)))
    touched = common_at(one, other, shift_at(shift, way, least))[0]
    line = (lines[0], (greatest_dot(other, lines[0]), 1))
    return (least, fine_point_of(inside), fine_point_of(touched), line)


def is_line_between(line, near, far):
    """Whether any value is a line that both, told by their corners, lie at on different sides."""
    if not isinstance(line, tuple) or len(line) != 2:
        return False
    u, c = line
    return is_barring_line(u, c, near, far) or is_barring_line(u, c, far, near)


def shows_shove(one, other, shift, way, value):
    need_shove(one, other, shift)
    need_direction(way)
    if not isinstance(value, tuple) or len(value) != 4:
        return False
    moment, inside, touched, line = value
    if not is_fraction(moment) or moment[0] < 0 or not is_fine_point(inside) or not is_fine_point(touched):
        return False
    if not are_both_within(one, other, triple_of(shift), triple_of(inside)):
        return False
    behind = shift_at(shift, way, moment)
    if not are_both_in(one, other, behind, triple_of(touched)):
        return False
    return is_line_between(line, shifted_triples(one, behind), triples_of(other))
