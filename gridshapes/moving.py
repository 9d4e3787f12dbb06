"""A round shape that goes along a leg beside lying ones, and the papers of it."""

from gridshapes.errors import NoFraction, NoMenu
from gridshapes.legs import (
    course_by, ends_of, entered_direction, meeting_by, overlap_by, shift_at, swept_corners)
from gridshapes.numbers import (
    dot, is_fine_point, is_fraction, is_number_pair, is_row, need_point, need_vector, vector_from)
from gridshapes.papers import has_word
from gridshapes.ratios import ALL_OF_IT, NONE_OF_IT, in_order, lesser_of, middle_of
from gridshapes.rounds import is_round, need_shape
from gridshapes.shifting import (
    are_both_in, are_both_within, are_full, barring_rows, common_at, ends_by, first_parting, is_barring_line,
    is_parting_line, shifted_triples, tried_directions, word_by)
from gridshapes.triples import fine_point_of, mean_of, triple_of, triples_of

MENU_MOST = 24


def need_leg(mover, still, shift, vector):
    need_shape(mover)
    need_shape(still)
    need_point(shift)
    need_vector(vector)


def need_menu_leg(mover, shapes, shift, vector):
    need_shape(mover)
    if not is_row(shapes, 1, MENU_MOST):
        raise NoMenu(None)
    for index, shape in enumerate(shapes):
        if not is_round(shape):
            raise NoMenu(index)
    need_point(shift)
    need_vector(vector)


def is_moment(value):
    return is_fraction(value) and 0 <= value[0] <= value[1]


def word_at(mover, still, shift, vector, moment):
    need_leg(mover, still, shift, vector)
    if not is_moment(moment):
        raise NoFraction(moment)
    return word_by(mover, still, shift_at(shift, vector, moment))


def meeting_time(mover, still, shift, vector):
    need_leg(mover, still, shift, vector)
    return meeting_by(mover, still, shift, vector)


def overlap_time(mover, still, shift, vector):
    need_leg(mover, still, shift, vector)
    return overlap_by(mover, still, shift, vector)


def course_of(mover, still, shift, vector):
    need_leg(mover, still, shift, vector)
    return course_by(mover, still, shift, vector)


def meets_of(mover, shapes, shift, vector):
    need_menu_leg(mover, shapes, shift, vector)
    rows = []
    for number, shape in enumerate(shapes):
        times = meeting_by(mover, shape, shift, vector)
        if times is not None:
            rows.append((times[0], number))
    return in_order(rows)


def overlap_times(mover, shapes, shift, vector):
    """The overlap times of all shapes that are overlapped."""
    times = [overlap_by(mover, shape, shift, vector) for shape in shapes]
    return [pair for pair in times if pair is not None]


def is_free(mover, shapes, shift, vector):
    need_menu_leg(mover, shapes, shift, vector)
    return overlap_times(mover, shapes, shift, vector) == []


def free_until(mover, shapes, shift, vector):
    need_menu_leg(mover, shapes, shift, vector)
    if "overlap" in [word_by(mover, shape, triple_of(shift)) for shape in shapes]:
        return None
    until = ALL_OF_IT
    for begin, _ in overlap_times(mover, shapes, shift, vector):
        until = lesser_of(until, begin)
    return until


def both_moving(mover, still, shift, vector, other_shift, other_vector):
    need_leg(mover, still, shift, vector)
    need_point(other_shift)
    need_vector(other_vector)
    beside = vector_from(other_shift, shift)
    way = vector_from(other_vector, vector)
    return (meeting_by(mover, still, beside, way), overlap_by(mover, still, beside, way))


def leg_paper(mover, still, shift, vector):
    need_leg(mover, still, shift, vector)
    times = meeting_by(mover, still, shift, vector)
    if times is None:
        u, near_end = first_parting(swept_corners(mover, shift, vector), still)
        return ("apart", u, near_end)
    moment = times[0]
    common = common_at(mover, still, shift_at(shift, vector, moment))
    u = None
    if moment != NONE_OF_IT:
        u = entered_direction(mover, still, shift, vector, moment)
    return ("first", moment, fine_point_of(common[0]), u)


def free_paper(mover, still, shift, vector):
    need_leg(mover, still, shift, vector)
    if not are_full(mover, still):
        return ("free", None, None)
    times = overlap_by(mover, still, shift, vector)
    if times is None:
        swept = swept_corners(mover, shift, vector)
        u, near_end = barring_rows(tried_directions(swept, still), triples_of(swept), triples_of(still))[0]
        return ("free", u, near_end)
    moment = middle_of(times[0], times[1])
    common = common_at(mover, still, shift_at(shift, vector, moment))
    return ("overlaps", moment, fine_point_of(mean_of(common)))


def is_coming(mover, still, shift, vector, moment, u):
    """Whether by the direction the mover, at this moment, only now comes to still."""
    if not is_number_pair(u) or dot(u, vector) <= 0:
        return False
    near = shifted_triples(mover, shift_at(shift, vector, moment))
    end, start = ends_by(u, near, triples_of(still))
    return end == start


def is_right_first(mover, still, shift, vector, paper):
    _, moment, p, u = paper
    if not is_moment(moment) or not is_fine_point(p):
        return False
    if not are_both_in(mover, still, shift_at(shift, vector, moment), triple_of(p)):
        return False
    if moment == NONE_OF_IT:
        return u is None
    return is_coming(mover, still, shift, vector, moment, u)


def is_right_apart(mover, still, shift, vector, paper):
    _, u, c = paper
    return is_parting_line(u, c, triples_of(ends_of(mover, shift, vector)), triples_of(still))


def accepts_leg(mover, still, shift, vector, value):
    need_leg(mover, still, shift, vector)
    if has_word(value, "first", 4):
        return is_right_first(mover, still, shift, vector, value)
    return has_word(value, "apart", 3) and is_right_apart(mover, still, shift, vector, value)


def is_right_overlap(mover, still, shift, vector, paper):
    _, moment, p = paper
    if not is_moment(moment) or not is_fine_point(p):
        return False
    return are_both_within(mover, still, shift_at(shift, vector, moment), triple_of(p))


def is_right_free(mover, still, shift, vector, paper):
    _, u, c = paper
    if u is None and c is None:
        return not are_full(mover, still)
    return is_barring_line(u, c, triples_of(ends_of(mover, shift, vector)), triples_of(still))


def accepts_free(mover, still, shift, vector, value):
    need_leg(mover, still, shift, vector)
    if has_word(value, "overlaps", 3):
        return is_right_overlap(mover, still, shift, vector, value)
    return has_word(value, "free", 3) and is_right_free(mover, still, shift, vector, value)
