"""The grid points of fine shapes: how many there are, their rows, their order and their sums."""

from gridshapes.errors import NoCount, NoPoint
from gridshapes.finerows import first_row_from, grid_many, points_along, rim_many, row_by, row_lines, turned_triples
from gridshapes.floors import moments_by
from gridshapes.floorsums import need_number
from gridshapes.numbers import is_fine_point, is_number, need_point
from gridshapes.rounds import need_triples
from gridshapes.rowlines import row_with, summed_rows
from gridshapes.triples import triple_of


def need_lines(fine):
    """The right lines and the left lines of a fine shape."""
    return row_lines(need_triples(fine))


def grid_points_in(fine):
    return grid_many(need_triples(fine))


def grid_points_on_rim(fine):
    return rim_many(need_triples(fine))


def grid_points_within(fine):
    return grid_points_in(fine) - grid_points_on_rim(fine)


def row_of(fine, y):
    rights, lefts = need_lines(fine)
    need_number(y)
    return row_by(rights, lefts, y)


def points_in_rows(fine, low, high):
    rights, lefts = need_lines(fine)
    need_number(low)
    need_number(high)
    return summed_rows(rights + lefts, low, high + 1)


def first_by(rights, lefts):
    """The least y of the grid points of a shape with these lines, None without any."""
    return first_row_from(rights, lefts, rights[0][0]) if rights else None


def first_row(fine):
    rights, lefts = need_lines(fine)
    return first_by(rights, lefts)


def last_row(fine):
    triples = need_triples(fine)
    if not triples:
        return None
    rights, lefts = row_lines(turned_triples(triples))
    row = first_by(rights, lefts)
    return None if row is None else 0 - row


def rank_of(fine, point):
    rights, lefts = need_lines(fine)
    need_point(point)
    if not rights:
        return 0
    x, y = point
    ahead = summed_rows(rights + lefts, rights[0][0], y)
    row = row_by(rights, lefts, y)
    if row is None:
        return ahead
    first, last = row
    return ahead + min(max(x - first, 0), last - first + 1)


def nth_point(fine, n):
    rights, lefts = need_lines(fine)
    if not is_number(n) or n < 0:
        raise NoCount(n)
    place = row_with(rights + lefts, n)
    if place is None:
        return None
    y, number = place
    first, _ = row_by(rights, lefts, y)
    return (first + number, y)


def next_point(fine, point):
    rights, lefts = need_lines(fine)
    need_point(point)
    x, y = point
    row = row_by(rights, lefts, y)
    if row is not None and x < row[1]:
        return (max(row[0], x + 1), y)
    behind = first_row_from(rights, lefts, y + 1)
    if behind is None:
        return None
    first, _ = row_by(rights, lefts, behind)
    return (first, behind)


def stretch_points(one, other):
    if not is_fine_point(one):
        raise NoPoint(one)
    if not is_fine_point(other):
        raise NoPoint(other)
    return points_along(triple_of(one), triple_of(other))


def spread_of(fine):
    rights, lefts = need_lines(fine)
    many = twice_x = sum_y = 0
    for lines, sign in ((rights, 1), (lefts, -1)):
        for first, end, a, b, m in lines:
            floors, risen, squares = moments_by(end - first, a, a * first + b, m)
            many += floors
            sum_y += first * floors + risen
            # In a row from first to end - 1 twice the sum of x is end (end - 1) less first (first - 1); a left line
            # has 0 - first.
            twice_x += sign * squares - floors
    return (many, twice_x // 2, sum_y)
