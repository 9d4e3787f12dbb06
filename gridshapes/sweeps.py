"""What a round shape that goes along legs sweeps and meets, and the papers of it."""

from gridshapes.clips import cut_by_all
from gridshapes.corners import borders_by
from gridshapes.errors import NoMove
from gridshapes.finerows import grid_many
from gridshapes.legs import meeting_by, shift_at, swept_corners
from gridshapes.moving import is_moment
from gridshapes.numbers import is_fine_point, is_number, is_row, is_vector, need_point, need_vector, vector_sum
from gridshapes.papers import has_word
from gridshapes.ratios import NONE_OF_IT, ratio_sum
from gridshapes.rounds import need_shape
from gridshapes.shifting import are_both_in, common_at, first_parting, is_parting_line
from gridshapes.sums import told_corners
from gridshapes.triples import fine_point_of, triple_of, triples_of, twice_at

LEGS_MOST = 5


def need_sweep(shape, shift, legs):
    need_shape(shape)
    need_point(shift)
    if not is_row(legs, 1, LEGS_MOST):
        raise NoMove(None)
    for index, leg in enumerate(legs):
        if not is_vector(leg):
            raise NoMove(index)


def need_met(shape, shift, legs, other):
    need_sweep(shape, shift, legs)
    need_shape(other)


def legs_from(shift, legs):
    """The pairs of the shift from which a leg begins and its vector."""
    rows = []
    for leg in legs:
        rows.append((shift, leg))
        shift = vector_sum(shift, leg)
    return rows


def swept_rows(shape, shift, legs):
    """The corners, however many, of what each leg sweeps."""
    return [swept_corners(shape, start, leg) for start, leg in legs_from(shift, legs)]


def swept_by(shape, shift, v):
    need_shape(shape)
    need_point(shift)
    need_vector(v)
    return told_corners(swept_corners(shape, shift, v))


def swept_shapes(shape, shift, legs):
    need_sweep(shape, shift, legs)
    return [told_corners(corners) for corners in swept_rows(shape, shift, legs)]


def meetings_by(shape, shift, legs, other):
    return [meeting_by(shape, other, start, leg) for start, leg in legs_from(shift, legs)]


def met_moments(shape, shift, legs, other):
    need_met(shape, shift, legs, other)
    return meetings_by(shape, shift, legs, other)


def first_met_by(shape, shift, legs, other):
    for number, times in enumerate(meetings_by(shape, shift, legs, other)):
        if times is not None:
            return (number, times[0])
    return None


def first_met(shape, shift, legs, other):
    need_met(shape, shift, legs, other)
    return first_met_by(shape, shift, legs, other)


def signed_parts(rows, number):
    """What one of the swept shapes has alone, none ahead of it having it, as common parts to be added and taken away.

    Pairs of a sign and the corners, as triples, of what it and a lot of those ahead of it have in common.
    """
    parts = [(1, triples_of(rows[number]))]
    for row in rows[:number]:
        borders = borders_by(row)
        cuts = [(0 - sign, cut_by_all(triples, borders)) for sign, triples in parts]
        parts = parts + [(sign, triples) for sign, triples in cuts if triples]
    return parts


def fresh_by(rows):
    """How many points are fresh in each leg."""
    numbers = []
    for number in range(len(rows)):
        numbers.append(sum([sign * grid_many(triples) for sign, triples in signed_parts(rows, number)]))
    return numbers


def swept_points(shape, shift, legs):
    need_sweep(shape, shift, legs)
    return sum(fresh_by(swept_rows(shape, shift, legs)))


def fresh_points(shape, shift, legs):
    need_sweep(shape, shift, legs)
    return fresh_by(swept_rows(shape, shift, legs))


def swept_twice(shape, shift, legs):
    need_sweep(shape, shift, legs)
    rows = swept_rows(shape, shift, legs)
    total = NONE_OF_IT
    for number in range(len(rows)):
        for sign, triples in signed_parts(rows, number):
            top, bottom = twice_at(triples)
            total = ratio_sum(total, (sign * top, bottom))
    return total


def sweep_paper(shape, shift, legs, other):
    need_met(shape, shift, legs, other)
    met = first_met_by(shape, shift, legs, other)
    if met is None:
        return ("clear", tuple([first_parting(row, other) for row in swept_rows(shape, shift, legs)]))
    number, moment = met
    start, leg = legs_from(shift, legs)[number]
    common = common_at(shape, other, shift_at(start, leg, moment))
    return ("met", number, moment, fine_point_of(common[0]))


def is_right_met(shape, shift, legs, other, paper):
    _, number, moment, p = paper
    if not is_number(number) or not 0 <= number < len(legs) or not is_moment(moment) or not is_fine_point(p):
        return False
    start, leg = legs_from(shift, legs)[number]
    return are_both_in(shape, other, shift_at(start, leg, moment), triple_of(p))


def is_right_line(line, row, other):
    """Whether any value is a line that shows that what a leg sweeps does not come to the other shape."""
    if not isinstance(line, tuple) or len(line) != 2:
        return False
    return is_parting_line(line[0], line[1], triples_of(row), triples_of(other))


def is_right_clear(shape, shift, legs, other, lines):
    if not isinstance(lines, tuple) or len(lines) != len(legs):
        return False
    rows = swept_rows(shape, shift, legs)
    return all([is_right_line(line, row, other) for line, row in zip(lines, rows)])


def shows_sweep(shape, shift, legs, other, value):
    need_met(shape, shift, legs, other)
    if has_word(value, "met", 4) and is_right_met(shape, shift, legs, other, value):
        return "met"
    if has_word(value, "clear", 2) and is_right_clear(shape, shift, legs, other, value[1]):
        return "clear"
    return None
