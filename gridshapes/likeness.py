"""Grid maps, like shapes, their forms, and the papers of likeness."""

from gridshapes.corners import is_full, twice_by
from gridshapes.counts import rim_by
from gridshapes.errors import NoCount, NoMap
from gridshapes.gridmaps import (
    TURNS, back_by, behind_by, first_astray, frames_of, is_grid, leading_to, level_map, map_parts, maps_between,
    point_by, shape_by_grid, upright_map, vector_by, whole_map)
from gridshapes.numbers import is_number, need_point, need_vector
from gridshapes.papers import has_word
from gridshapes.ratios import reduced
from gridshapes.rounds import need_shape
from gridshapes.shoves import need_full
from gridshapes.stands import need_both


def is_grid_map(value):
    return is_grid(value)


def need_grid(grid):
    if not is_grid(grid):
        raise NoMap(grid)


def point_led(grid, point):
    need_grid(grid)
    need_point(point)
    return point_by(grid, point)


def vector_led(grid, vector):
    need_grid(grid)
    need_vector(vector)
    return vector_by(grid, vector)


def shape_led(grid, shape):
    need_grid(grid)
    need_shape(shape)
    return shape_by_grid(grid, shape)


def map_behind(grid, other):
    need_grid(grid)
    need_grid(other)
    return behind_by(grid, other)


def map_back(grid):
    need_grid(grid)
    return back_by(grid)


def need_corner(shape, j):
    if not is_number(j) or not 0 <= j < len(shape):
        raise NoCount(j)


def is_turn(value):
    return is_number(value) and value in TURNS


def need_turn(turn):
    if not is_turn(turn):
        raise NoCount(turn)


def map_of_frames(shape, j, other, n, turn):
    need_full(shape)
    need_corner(shape, j)
    need_full(other)
    need_corner(other, n)
    need_turn(turn)
    parts, common = map_parts(shape, j, other, n, turn)
    return tuple([reduced(part, common) for part in parts])


def need_both_full(one, other):
    need_full(one)
    need_full(other)


def all_maps(one, other):
    need_both_full(one, other)
    return maps_between(one, other)


def own_maps(shape):
    need_full(shape)
    return maps_between(shape, shape)


def first_map(one, other):
    """The told map of like shapes, None if they are not like."""
    if len(one) != len(other):
        return None
    if is_full(one):
        grids = maps_between(one, other)
        return grids[0] if grids else None
    if rim_by(one) != rim_by(other):
        return None
    if len(one) == 1:
        return leading_to((1, 0, 0, 1), one[0], other[0])
    return behind_by(level_map(one), back_by(level_map(other)))


def like_map(one, other):
    need_both(one, other)
    return first_map(one, other)


def are_like(one, other):
    return like_map(one, other) is not None


def upright_image(shape, j, turn):
    need_full(shape)
    need_corner(shape, j)
    need_turn(turn)
    grid = upright_map(shape, j, turn)
    return (shape_by_grid(grid, shape), grid)


def upright_maps(shape):
    return [upright_map(shape, j, turn) for j, turn in frames_of(shape)]


def likeness_form(shape):
    need_shape(shape)
    if is_full(shape):
        return min([shape_by_grid(grid, shape) for grid in upright_maps(shape)])
    if len(shape) == 1:
        return ((0, 0),)
    return ((0, 0), (rim_by(shape) - 1, 0))


def map_to_form(shape):
    need_full(shape)
    grids = upright_maps(shape)
    images = [shape_by_grid(grid, shape) for grid in grids]
    return grids[images.index(min(images))]


def unlike_words(one, other):
    """The words of all papers of one word that are right."""
    words = []
    if len(one) != len(other):
        words.append("corners")
    if twice_by(one) != twice_by(other):
        words.append("twice")
    if rim_by(one) != rim_by(other):
        words.append("rim")
    return words


def told_rows(one, other):
    """The rows that show of each frame of the other shape that no grid map leads there."""
    rows = []
    for j, turn in frames_of(other):
        parts, common = map_parts(one, 0, other, j, turn)
        if whole_map(parts, common) is None:
            rows.append((j, turn, "whole"))
        else:
            rows.append((j, turn, first_astray(parts, common, one, other)))
    return tuple(rows)


def like_paper(one, other):
    need_both(one, other)
    grid = first_map(one, other)
    if grid is not None:
        return ("like", grid)
    words = unlike_words(one, other)
    return (words[0],) if words else ("unlike", told_rows(one, other))


def is_right_like(one, other, grid):
    return is_grid(grid) and shape_by_grid(grid, one) == other


def is_astray(parts, common, one, other, number):
    """Whether such a map leads the corner with this number to no corner of the other shape."""
    x, y = point_by(parts, one[number])
    return (x, y) not in [(common * p, common * q) for p, q in other]


def is_right_row(one, other, row):
    """Whether any value is a triple that shows that no grid map leads to a frame."""
    if not isinstance(row, tuple) or len(row) != 3:
        return False
    j, turn, why = row
    if not is_number(j) or not 0 <= j < len(other) or not is_turn(turn):
        return False
    parts, common = map_parts(one, 0, other, j, turn)
    if isinstance(why, str):
        return why == "whole" and whole_map(parts, common) is None
    return is_number(why) and 0 <= why < len(one) and is_astray(parts, common, one, other, why)


def is_right_unlike(one, other, rows):
    if not is_full(one) or len(one) != len(other) or not isinstance(rows, (list, tuple)):
        return False
    if not all([is_right_row(one, other, row) for row in rows]):
        return False
    return sorted([(j, turn) for j, turn, _ in rows]) == sorted(frames_of(other))


def accepts_like(one, other, paper):
    need_both(one, other)
    if has_word(paper, "like", 2):
        return is_right_like(one, other, paper[1])
    if has_word(paper, "unlike", 2):
        return is_right_unlike(one, other, paper[1])
    return any([has_word(paper, word, 1) for word in unlike_words(one, other)])
