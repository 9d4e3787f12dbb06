"""Grid maps without checks: what they lead where, and those by which frames of shapes lead to one another."""

from gridshapes.corners import lowest_first
from gridshapes.finerows import whole_factors
from gridshapes.numbers import bare_of, cross, is_number, vector_from

TURNS = (1, -1)


def is_grid(value):
    """Whether any value is a grid map."""
    if not isinstance(value, tuple) or len(value) != 6 or not all([is_number(part) for part in value]):
        return False
    return turn_by(value) in TURNS


def turn_by(grid):
    """a d - b c: 1, or -1 if it turns shapes over."""
    return grid[0] * grid[3] - grid[1] * grid[2]


def vector_by(grid, vector):
    a, b, c, d, _, _ = grid
    x, y = vector
    return (a * x + b * y, c * x + d * y)


def point_by(grid, point):
    x, y = vector_by(grid, point)
    return (x + grid[4], y + grid[5])


def shape_by_grid(grid, shape):
    corners = [point_by(grid, corner) for corner in shape]
    # A shape that is turned over is gone round clockwise.
    return lowest_first(corners if turn_by(grid) > 0 else corners[::-1])


def leading_to(linear, one, other):
    """The map with the numbers a, b, c, d that leads one point to another one."""
    a, b, c, d = linear
    x, y = vector_by((a, b, c, d, 0, 0), one)
    return (a, b, c, d, other[0] - x, other[1] - y)


def behind_by(grid, other):
    """The map that does what the first one and then the other one does."""
    a, c = vector_by(other, (grid[0], grid[2]))
    b, d = vector_by(other, (grid[1], grid[3]))
    e, f = point_by(other, (grid[4], grid[5]))
    return (a, b, c, d, e, f)


def back_by(grid):
    a, b, c, d, e, f = grid
    turn = turn_by(grid)
    return leading_to((turn * d, 0 - turn * b, 0 - turn * c, turn * a), (e, f), (0, 0))


def neighbours_at(shape, j):
    """The vectors from a corner to the next corner and to the one before it."""
    return vector_from(shape[j], shape[j + 1 - len(shape)]), vector_from(shape[j], shape[j - 1])


def frame_at(shape, j, turn):
    ahead, before = neighbours_at(shape, j)
    return (ahead, before) if turn == 1 else (before, ahead)


def map_parts(one, j, other, n, turn):
    """The map of fractions that leads frame j of the one, by turn 1, to frame n of the other by turn.

    Six numbers and what they are to be divided by, above 0.
    """
    (p, q), (r, s) = frame_at(one, j, 1), frame_at(other, n, turn)
    common = cross(p, q)
    a, b = r[0] * q[1] - s[0] * p[1], s[0] * p[0] - r[0] * q[0]
    c, d = r[1] * q[1] - s[1] * p[1], s[1] * p[0] - r[1] * q[0]
    x, y = other[n]
    return leading_to((a, b, c, d), one[j], (common * x, common * y)), common


def whole_map(parts, common):
    """The grid map of such parts, None if they are those of none."""
    if [part for part in parts if part % common != 0]:
        return None
    grid = tuple([part // common for part in parts])
    return grid if turn_by(grid) in TURNS else None


def first_astray(parts, common, one, other):
    """The number of the first corner of the one that such a map leads to no corner of the other, None without any."""
    corners = {(common * x, common * y): True for x, y in other}
    for number, corner in enumerate(one):
        if point_by(parts, corner) not in corners:
            return number
    return None


def frames_of(shape):
    """The pairs of the number of a corner and a turn, in order."""
    return [(j, turn) for j in range(len(shape)) for turn in TURNS]


def maps_between(one, other):
    """All maps from a full shape to another one."""
    if len(one) != len(other):
        return []
    grids = []
    for j, turn in frames_of(other):
        parts, common = map_parts(one, 0, other, j, turn)
        grid = whole_map(parts, common)
        if grid is not None and first_astray(parts, common, one, other) is None:
            grids.append(grid)
    return grids


def level_linear(vector):
    """The numbers a, b, c, d by which the bare vector of a vector of the upper half is led to (1, 0), a the least."""
    x, y = bare_of(vector)
    if y == 0:
        return (1, 0, 0, 1)
    _, a, _ = whole_factors(x, y)
    a = a % y
    return (a, (1 - a * x) // y, 0 - y, x)


def level_map(stretch):
    """The map that leads the first corner of a stretch to (0, 0), its first side along (1, 0)."""
    return leading_to(level_linear(vector_from(stretch[0], stretch[1])), stretch[0], (0, 0))


def upright_map(shape, j, turn):
    """The map to the upright image of a full shape at a corner."""
    first, second = frame_at(shape, j, turn)
    x, y = bare_of(first)
    _, a, b = whole_factors(x, y)
    c, d = 0 - turn * y, turn * x
    p, q = vector_by((a, b, c, d, 0, 0), second)
    # What leads (x, y) to (1, 0) does so too with any times c and d added to a and b.
    times = 0 - p // q
    return leading_to((a + times * c, b + times * d, c, d), shape[j], (0, 0))
