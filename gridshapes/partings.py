"""Beginnings, ears and diagonals of simple shapes, without checks."""

from itertools import combinations

from gridshapes.loops import are_neighbours, do_fold, do_meet, is_owned, loop_sides, told_loop, turn_at
from gridshapes.numbers import bare_of, cross, is_slope_ahead, is_upper, turned_about, vector_from


def beginnings_by(simple, pieces):
    """The dict from the pairs of a direction and a point to the pieces' beginnings there less the shape's, not 0."""
    numbers = {}
    for shape, sign in [(piece, 1) for piece in pieces] + [(simple, -1)]:
        for one, other in loop_sides(shape):
            bare = bare_of(vector_from(one, other))
            upper = bare if is_upper(bare) else turned_about(bare)
            numbers[(upper, one)] = numbers.get((upper, one), 0) + sign
            numbers[(upper, other)] = numbers.get((upper, other), 0) - sign
    return {place: number for place, number in numbers.items() if number != 0}


def flaw_by(simple, pieces):
    """The first flaw by its point, then by its direction; None without any."""
    numbers = beginnings_by(simple, pieces)
    first = None
    for u, point in numbers:
        if first is None or (point[1], point[0]) < (first[1][1], first[1][0]):
            first = (u, point)
        elif point == first[1] and is_slope_ahead(u, first[0]):
            first = (u, point)
    return None if first is None else (first[0], first[1], numbers[first])


def is_in_triangle(triangle, point):
    """Whether a point is in a triangle, counterclockwise, or on its rim."""
    return all([turn_at(one, other, point) >= 0 for one, other in loop_sides(triangle)])


def is_ear(row, k):
    one, corner, other = row[k - 1], row[k], row[k + 1 - len(row)]
    if turn_at(one, corner, other) <= 0:
        return False
    others = [point for point in row if point not in (one, corner, other)]
    return not any([is_in_triangle((one, corner, other), point) for point in others])


def ears_by(row):
    if len(row) == 3:
        return []
    return [k for k in range(len(row)) if is_ear(row, k)]


def triangles_by(simple):
    row = list(simple)
    triangles = []
    while len(row) > 3:
        ear = ears_by(row)[0]
        triangles.append(told_loop([row[ear - 1], row[ear], row[ear + 1 - len(row)]]))
        row = row[:ear] + row[ear + 1:]
    triangles.append(told_loop(row))
    return triangles


def do_touch(side, stretch):
    """Whether a side has a point of the stretch between two corners besides the ends of this stretch."""
    for near, far in (side, side[::-1]):
        for corner, other in (stretch, stretch[::-1]):
            if near == corner:
                return do_fold(far, corner, other)
    return do_meet(side, stretch)


def is_diagonal(simple, i, j):
    if are_neighbours(i, j, len(simple)):
        return False
    (x, y), (k, n) = simple[i], simple[j]
    if any([do_touch(side, (simple[i], simple[j])) for side in loop_sides(simple)]):
        return False
    # Nothing of it is on the rim: it is within as its middle is.
    return is_owned(simple, (x + k, y + n, 2))


def all_diagonals(simple):
    return [(i, j) for i, j in combinations(range(len(simple)), 2) if is_diagonal(simple, i, j)]


def do_cross(one, other):
    """Whether two diagonals of one shape cross: the corners of one are on both sides of the other one."""
    (i, j), (k, n) = one, other
    return i < k < j < n or k < i < n < j


def corners_parted(many, diagonals):
    """The ascending tuples of the indexes of the corners of all pieces, ascending."""
    rows = [tuple(range(many))]
    for i, j in diagonals:
        parted = []
        for row in rows:
            if i in row and j in row:
                parted.append(tuple([k for k in row if i <= k <= j]))
                parted.append(tuple([k for k in row if k <= i or k >= j]))
            else:
                parted.append(row)
        rows = parted
    return sorted(rows)


def pieces_parted(simple, diagonals):
    return [told_loop([simple[k] for k in row]) for row in corners_parted(len(simple), diagonals)]


def is_round_at(simple, v, diagonals):
    """Whether no piece turns right at the corner v; the diagonals there do not cross."""
    many = len(simple)
    # Round a corner diagonals follow one another as the corners do to which they lead.
    ends = sorted([(i + j - v - v) % many for i, j in diagonals if v in (i, j)])
    ways = [vector_from(simple[v], simple[(v + k) % many]) for k in [1, *ends, many - 1]]
    return all([cross(one, other) >= 0 for one, other in zip(ways, ways[1:])])


def lot_among(simple, chosen, rest, size):
    """The first lot that leaves round pieces, of the chosen diagonals and so many of the rest; None without any."""
    bent = [v for v in range(len(simple)) if not is_round_at(simple, v, chosen)]
    if size == 0:
        return None if bent else chosen
    # One diagonal helps at two corners at most.
    if len(bent) > 2 * size or not all([is_round_at(simple, v, chosen + rest) for v in bent]):
        return None
    for k, diagonal in enumerate(rest):
        free = [other for other in rest[k + 1:] if not do_cross(diagonal, other)]
        lot = lot_among(simple, chosen + [diagonal], free, size - 1)
        if lot is not None:
            return lot
    return None


def fewest_by(simple):
    diagonals = all_diagonals(simple)
    lot = None
    size = 0
    while lot is None:
        lot = lot_among(simple, [], diagonals, size)
        size += 1
    return tuple(lot)
