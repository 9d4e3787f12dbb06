"""Which points simple shapes own, and the samples among them, in rows."""

from gridshapes.errors import NoFraction, NoNumber, NoPlace, NoSimple
from gridshapes.loops import is_owned, loop_sides
from gridshapes.numbers import POINT_MOST, is_fraction, is_number, is_row, need_shift
from gridshapes.rowlines import all_in, row_with, summed_rows
from gridshapes.simples import is_simple, need_simple
from gridshapes.triples import triple_of

SIMPLES_MOST = 60


def does_own(simple, point):
    need_simple(simple)
    need_shift(point)
    return is_owned(simple, triple_of(point))


def owners_among(simples, point):
    if not is_row(simples, 0, SIMPLES_MOST):
        raise NoSimple(None)
    for index, simple in enumerate(simples):
        if not is_simple(simple):
            raise NoSimple(index)
    need_shift(point)
    return [index for index, simple in enumerate(simples) if is_owned(simple, triple_of(point))]


def need_offset(offset):
    if not is_fraction(offset) or not 0 <= offset[0] < offset[1]:
        raise NoFraction(offset)


def need_offsets(s, t):
    need_offset(s)
    need_offset(t)


def need_row(number):
    if not is_number(number) or abs(number) > POINT_MOST:
        raise NoNumber(number)


def begin_line(low, high, s, t):
    """The row line (gridshapes.rowlines) of a side: in row j the least i whose sample is not left of the side.

    Whatever the offset, these are the rows from that of the lower end to the one below that of the upper end.
    """
    (x, y), (end_x, end_y) = low, high
    (across, width), (up, height) = s, t
    rise, run = end_y - y, end_x - x
    m = rise * height * width
    b = x * m + (up - y * height) * run * width - across * rise * height
    # Rounded up: the floor of one less than m more.
    return (y, end_y, run * height * width, b + m - 1, m)


def begin_lines(simple, s, t):
    """The lines of the sides that have the shape on their right, and of those that have it on their left."""
    sides = loop_sides(simple)
    falling = [begin_line(other, one, s, t) for one, other in sides if other[1] < one[1]]
    rising = [begin_line(one, other, s, t) for one, other in sides if one[1] < other[1]]
    return (falling, rising)


def counting_lines(simple, s, t):
    """Row lines that have in each row how many samples are owned."""
    falling, rising = begin_lines(simple, s, t)
    # Taken away: 0 less the floor of k / m is the floor of (m - 1 - k) / m.
    return rising + [(first, end, 0 - a, m - 1 - b, m) for first, end, a, b, m in falling]


def begins_in(lines, j):
    return sorted([(a * j + b) // m for first, end, a, b, m in lines if first <= j < end])


def runs_in(simple, j, s, t):
    falling, rising = begin_lines(simple, s, t)
    runs = []
    # At each level sides with the shape on their right and on their left take turns.
    for begin, end in zip(begins_in(falling, j), begins_in(rising, j)):
        if begin == end:
            continue
        if runs and runs[-1][1] + 1 == begin:
            runs[-1] = (runs[-1][0], end - 1)
        else:
            runs.append((begin, end - 1))
    return runs


def samples_below(simple, j, s, t):
    lowest = simple[0][1]
    return summed_rows(counting_lines(simple, s, t), lowest, j)


def owned_samples(simple, *, s=(0, 1), t=(0, 1)):
    need_simple(simple)
    need_offsets(s, t)
    return all_in(counting_lines(simple, s, t))


def owned_below(simple, j, *, s=(0, 1), t=(0, 1)):
    need_simple(simple)
    need_row(j)
    need_offsets(s, t)
    return samples_below(simple, j, s, t)


def row_runs(simple, j, *, s=(0, 1), t=(0, 1)):
    need_simple(simple)
    need_row(j)
    need_offsets(s, t)
    return tuple(runs_in(simple, j, s, t))


def sample_in(runs, j, left):
    """The sample of row j with so many of the row's runs ahead of it."""
    k = 0
    while left > runs[k][1] - runs[k][0]:
        left -= runs[k][1] - runs[k][0] + 1
        k += 1
    return (runs[k][0] + left, j)


def owned_sample(simple, n, *, s=(0, 1), t=(0, 1)):
    need_simple(simple)
    if not is_number(n) or n < 0:
        raise NoPlace(n)
    need_offsets(s, t)
    place = row_with(counting_lines(simple, s, t), n)
    if place is None:
        raise NoPlace(n)
    j, left = place
    return sample_in(runs_in(simple, j, s, t), j, left)


def number_of_sample(simple, i, j, *, s=(0, 1), t=(0, 1)):
    need_simple(simple)
    need_row(i)
    need_row(j)
    need_offsets(s, t)
    number = samples_below(simple, j, s, t)
    for first, last in runs_in(simple, j, s, t):
        if first <= i <= last:
            return number + i - first
        number += last - first + 1
    return None
