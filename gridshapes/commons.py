"""What round shapes have in common, and papers that show that it is nothing."""

from itertools import combinations

from gridshapes.barring import barring_pairs
from gridshapes.clips import common_of, cut_by_all
from gridshapes.corners import borders_by
from gridshapes.errors import TooMany
from gridshapes.numbers import is_number
from gridshapes.papers import has_word
from gridshapes.sums import need_shapes, told_corners
from gridshapes.triples import fine_point_of, fine_points_of

SHAPES_MOST = 8
BORDERS_MOST = 100


def common_part(shapes):
    need_shapes(shapes, SHAPES_MOST)
    common = told_corners(common_of(shapes))
    return fine_points_of(common) if common else None


def common_point(shapes):
    need_shapes(shapes, SHAPES_MOST)
    common = common_of(shapes)
    return fine_point_of(common[0]) if common else None


def empty_two(shapes):
    for i, j in combinations(range(len(shapes)), 2):
        if not common_of([shapes[i], shapes[j]]):
            return [i, j]
    return None


def empty_three(shapes):
    """Three shapes without a common point, of shapes that have one by twos."""
    for i, j in combinations(range(len(shapes)), 2):
        common = common_of([shapes[i], shapes[j]])
        for k in range(j + 1, len(shapes)):
            if not cut_by_all(common, borders_by(shapes[k])):
                return [i, j, k]
    return None


def empty_by(shapes):
    if common_of(shapes):
        return None
    return empty_two(shapes) or empty_three(shapes)


def first_empty(shapes):
    need_shapes(shapes, SHAPES_MOST)
    return empty_by(shapes)


def none_paper(shapes):
    need_shapes(shapes, SHAPES_MOST)
    numbers = empty_by(shapes)
    if numbers is None:
        return None
    places = []
    walls = []
    for number in numbers:
        for k, wall in enumerate(borders_by(shapes[number])):
            places.append((number, k))
            walls.append(wall)
    if len(walls) > BORDERS_MOST:
        raise TooMany(BORDERS_MOST)
    return ("none", tuple([places[k] + (weight,) for k, weight in barring_pairs(walls)]))


def is_weighted(row, borders):
    """Whether any value is a triple of a shape's number, that of one of its walls, and a weight."""
    if not isinstance(row, tuple) or len(row) != 3 or not all([is_number(part) for part in row]):
        return False
    shape, wall, weight = row
    return 0 <= shape < len(borders) and 0 <= wall < len(borders[shape]) and weight > 0


def do_bar(rows, borders):
    """Whether weighted walls bar a common point."""
    x, y, c = 0, 0, 0
    for shape, wall, weight in rows:
        (a, b), (most, _) = borders[shape][wall]
        x, y, c = x + weight * a, y + weight * b, c + weight * most
    return (x, y) == (0, 0) and c < 0


def accepts_none(shapes, paper):
    need_shapes(shapes, SHAPES_MOST)
    if not has_word(paper, "none", 2) or not isinstance(paper[1], tuple) or not 2 <= len(paper[1]) <= 3:
        return False
    rows = paper[1]
    borders = [borders_by(shape) for shape in shapes]
    if not all([is_weighted(row, borders) for row in rows]):
        return False
    places = {(shape, wall): True for shape, wall, _ in rows}
    return len(places) == len(rows) and do_bar(rows, borders)
