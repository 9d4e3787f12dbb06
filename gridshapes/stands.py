"""How two round shapes stand, one of them at a shift, and the papers of it."""

from gridshapes.corners import is_full
from gridshapes.counts import core_by, rim_by
from gridshapes.numbers import is_fine_point, need_shift
from gridshapes.papers import has_word
from gridshapes.rounds import need_shape
from gridshapes.shifting import (
    are_both_in, are_both_within, are_full, barring_rows, common_at, is_barring_line, is_parting_line,
    parting_rows, shifted_triples, stand_corners, tried_directions, word_by)
from gridshapes.sums import told_corners
from gridshapes.triples import fine_point_of, mean_of, triple_of, triples_of


def need_both(one, other):
    need_shape(one)
    need_shape(other)


def stand_shape(one, other):
    need_both(one, other)
    return told_corners(stand_corners(one, other))


def stand_of(one, other, t=(0, 0)):
    need_both(one, other)
    need_shift(t)
    return word_by(one, other, triple_of(t))


def meets(one, other, t=(0, 0)):
    return stand_of(one, other, t) != "apart"


def overlaps(one, other, t=(0, 0)):
    return stand_of(one, other, t) == "overlap"


def trial_directions(one, other):
    need_both(one, other)
    return tried_directions(one, other)


def parting_directions(one, other, t=(0, 0)):
    need_both(one, other)
    need_shift(t)
    near = shifted_triples(one, triple_of(t))
    return parting_rows(tried_directions(one, other), near, triples_of(other))


def touching_line(one, other, shift):
    """The line of the told paper of a touch."""
    if not are_full(one, other):
        return None
    rows = barring_rows(tried_directions(one, other), shifted_triples(one, shift), triples_of(other))
    return rows[0]


def stand_paper(one, other, t=(0, 0)):
    word = stand_of(one, other, t)
    if word == "apart":
        u, near_end = parting_directions(one, other, t)[0]
        return ("apart", u, near_end)
    shift = triple_of(t)
    common = common_at(one, other, shift)
    if word == "touch":
        return ("touch", fine_point_of(common[0]), touching_line(one, other, shift))
    return ("overlap", fine_point_of(mean_of(common)))


def is_right_touch(one, other, shift, paper):
    _, p, line = paper
    if not is_fine_point(p) or not are_both_in(one, other, shift, triple_of(p)):
        return False
    if not are_full(one, other):
        return line is None
    if not isinstance(line, tuple) or len(line) != 2:
        return False
    return is_barring_line(line[0], line[1], shifted_triples(one, shift), triples_of(other))


def accepts_stand(one, other, t, paper):
    need_both(one, other)
    need_shift(t)
    shift = triple_of(t)
    if has_word(paper, "apart", 3):
        return is_parting_line(paper[1], paper[2], shifted_triples(one, shift), triples_of(other))
    if has_word(paper, "overlap", 2):
        p = paper[1]
        return is_fine_point(p) and are_both_within(one, other, shift, triple_of(p))
    return has_word(paper, "touch", 3) and is_right_touch(one, other, shift, paper)


def count_shifts(one, other):
    need_both(one, other)
    stand = told_corners(stand_corners(one, other))
    if is_full(one) and is_full(other):
        return (rim_by(stand), core_by(stand))
    return (rim_by(stand) + core_by(stand), 0)
