"""Fine shapes cut by walls and along lines, their areas, and what is in them."""

from gridshapes.clips import cut_by_all
from gridshapes.corners import is_full
from gridshapes.errors import NoCut, NoFine, NoPoint, NoWall
from gridshapes.numbers import (
    dot, is_fine_point, is_fraction, is_paper_direction, is_point, is_row, need_point, vector_from)
from gridshapes.rounds import fine_place, need_fine, need_triples
from gridshapes.sums import told_corners
from gridshapes.triples import fine_points_of, twice_at

LINES_MOST = 6


def is_border(value):
    """Whether any value is a wall, of numbers of any size."""
    return (isinstance(value, tuple) and len(value) == 2
            and is_paper_direction(value[0]) and is_fraction(value[1]))


def need_borders(walls):
    if not isinstance(walls, (list, tuple)):
        raise NoWall(None)
    for index, border in enumerate(walls):
        if not is_border(border):
            raise NoWall(index)


def told_fine(triples):
    """The fine shape with these corners, if it may be told."""
    return fine_points_of(told_corners(triples)) if triples else None


def cut_by(fine, walls):
    triples = need_triples(fine)
    need_borders(walls)
    return told_fine(cut_by_all(triples, walls))


def borders_along(first, second):
    """The walls that let what is left of a line, and what is right of it."""
    x, y = vector_from(first, second)
    return [(u, (dot(u, first), 1)) for u in ((y, 0 - x), (0 - y, x))]


def parts_along(triples, line):
    first, second = line
    return [cut_by_all(triples, [border]) for border in borders_along(first, second)]


def cut_along(fine, first, second):
    triples = need_triples(fine)
    need_point(first)
    if not is_point(second) or second == first:
        raise NoPoint(second)
    left, right = [told_fine(part) for part in parts_along(triples, (first, second))]
    return (left, right)


def is_line(value):
    """Whether any value is a pair of unlike points."""
    if not isinstance(value, tuple) or len(value) != 2:
        return False
    return is_point(value[0]) and is_point(value[1]) and value[0] != value[1]


def need_cuts(lines):
    if not is_row(lines, 0, LINES_MOST):
        raise NoCut(None)
    for index, line in enumerate(lines):
        if not is_line(line):
            raise NoCut(index)


def cells_of(fine, lines):
    triples = need_triples(fine)
    if not is_full(triples):
        raise NoFine(fine)
    need_cuts(lines)
    cells = [triples]
    for line in lines:
        parts = []
        for cell in cells:
            parts.extend(parts_along(cell, line))
        cells = [part for part in parts if is_full(part)]
    return [told_fine(cell) for cell in cells]


def fine_twice(fine):
    return twice_at(need_triples(fine))


def place_of_fine(fine, point):
    need_fine(fine)
    if not is_fine_point(point):
        raise NoPoint(point)
    return fine_place(fine, point)


def is_in_fine(fine, point):
    return place_of_fine(fine, point) != "out"


def is_within_fine(fine, point):
    return place_of_fine(fine, point) == "within"
