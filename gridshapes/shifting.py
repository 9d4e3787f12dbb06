"""One shape at a shift and another one, without checks: where they stand, and what shows it."""

from gridshapes.clips import common_triples
from gridshapes.corners import added_corners, borders_by, directions_by, is_full, side_row, turned_corners
from gridshapes.numbers import is_fraction, is_paper_direction, turned_about
from gridshapes.ratios import is_less
from gridshapes.triples import greatest_end, least_end, place_among, triple_from, triple_sum, triples_of

# By the place of the shift in the stand shape.
WORDS = {"out": "apart", "rim": "touch", "within": "overlap"}


def stand_corners(one, other):
    return added_corners(other, turned_corners(one))


def are_full(one, other):
    return is_full(one) and is_full(other)


def word_among(walls, both_full, shift):
    """The word at a shift, a triple, by the walls of the stand shape."""
    return WORDS[place_among(walls, both_full, shift)]


def word_by(one, other, shift):
    return word_among(borders_by(stand_corners(one, other)), are_full(one, other), shift)


def shifted_triples(shape, shift):
    return [triple_sum(triple, shift) for triple in triples_of(shape)]


def common_at(one, other, shift):
    """The corners, as triples, of the common part of the one at the shift and the other."""
    return common_triples(shifted_triples(one, shift), [other])


def place_of(shape, shift, triple):
    """Where a point is in a shape at a shift."""
    return place_among(borders_by(shape), is_full(shape), triple_from(shift, triple))


def are_both_in(one, other, shift, triple):
    return place_of(one, shift, triple) != "out" and place_of(other, (0, 0, 1), triple) != "out"


def are_both_within(one, other, shift, triple):
    return place_of(one, shift, triple) == "within" and place_of(other, (0, 0, 1), triple) == "within"


def tried_directions(one, other):
    """The directions of the trial walls, each once."""
    rows = list(directions_by(side_row(one)))
    for u in directions_by(side_row(other)):
        if turned_about(u) not in rows:
            rows.append(turned_about(u))
    return rows


def ends_by(u, near, far):
    """The near end and the far start, by the corners of both as triples."""
    return greatest_end(u, near), least_end(u, far)


def parts_by(u, near, far):
    end, start = ends_by(u, near, far)
    return is_less(end, start)


def bars_by(u, near, far):
    """Whether the near end is at most the far start."""
    end, start = ends_by(u, near, far)
    return not is_less(start, end)


def parting_rows(directions, near, far):
    """The pairs of a direction that parts both and its near end."""
    return [(u, greatest_end(u, near)) for u in directions if parts_by(u, near, far)]


def first_parting(one, other):
    """The first of the trial walls that parts both as they lie, and its near end; they are apart."""
    return parting_rows(tried_directions(one, other), triples_of(one), triples_of(other))[0]


def barring_rows(directions, near, far):
    """The pairs of a direction by which both do not overlap and its near end."""
    return [(u, greatest_end(u, near)) for u in directions if bars_by(u, near, far)]


def is_parting_line(u, c, near, far):
    """Whether any two values are a direction and a fraction that show that both are apart."""
    if not is_paper_direction(u) or not is_fraction(c):
        return False
    end, start = ends_by(u, near, far)
    return not is_less(c, end) and is_less(c, start)


def is_barring_line(u, c, near, far):
    """Whether any two values are a direction and a fraction that show that both, being full, do not overlap."""
    if not is_paper_direction(u) or not is_fraction(c):
        return False
    end, start = ends_by(u, near, far)
    return not is_less(c, end) and not is_less(start, c)
