"""Legs of a moving shape, without checks: the times of it, and the words at its moments."""

from gridshapes.corners import added_corners, borders_by, moved_corners
from gridshapes.numbers import dot, is_upper, turned_about
from gridshapes.ratios import (
    ALL_OF_IT, NONE_OF_IT, greater_of, in_order, is_less, lesser_of, middle_of, reduced)
from gridshapes.shifting import are_full, stand_corners, word_among
from gridshapes.triples import lowest_terms


def shift_at(shift, vector, moment):
    """Where the mover is at the moment, as a triple."""
    top, bottom = moment
    return lowest_terms(bottom * shift[0] + top * vector[0], bottom * shift[1] + top * vector[1], bottom)


def stand_borders(mover, still):
    return borders_by(stand_corners(mover, still))


def span_among(walls, shift, vector, is_strict):
    """The least and the greatest moment at which all walls let the moving shift, None without any.

    Strictly: between which the dot with each wall's vector is less than its fraction.
    """
    low, high = NONE_OF_IT, ALL_OF_IT
    for u, (most, _) in walls:
        speed, room = dot(u, vector), most - dot(u, shift)
        if speed > 0:
            high = lesser_of(high, reduced(room, speed))
        elif speed < 0:
            low = greater_of(low, reduced(room, speed))
        elif room < 0 or (is_strict and room == 0):
            return None
    if is_less(high, low) or (is_strict and low == high):
        return None
    return (low, high)


def meeting_by(mover, still, shift, vector):
    return span_among(stand_borders(mover, still), shift, vector, False)


def overlap_by(mover, still, shift, vector):
    if not are_full(mover, still):
        return None
    return span_among(stand_borders(mover, still), shift, vector, True)


def marks_by(times):
    """0, 1 and all moments of the times, each once, ascending."""
    moments = {NONE_OF_IT: True, ALL_OF_IT: True}
    for pair in times:
        if pair is not None:
            moments[pair[0]] = True
            moments[pair[1]] = True
    return [moment for moment, _ in in_order([(moment, 0) for moment in moments])]


def course_by(mover, still, shift, vector):
    walls = stand_borders(mover, still)
    both_full = are_full(mover, still)
    marks = marks_by([meeting_by(mover, still, shift, vector), overlap_by(mover, still, shift, vector)])
    course = []
    for k, mark in enumerate(marks):
        word = word_among(walls, both_full, shift_at(shift, vector, mark))
        after = None
        if k + 1 < len(marks):
            after = word_among(walls, both_full, shift_at(shift, vector, middle_of(mark, marks[k + 1])))
        course.append((mark, word, after))
    return course


def ends_of(mover, shift, vector):
    """The corners of the mover at the moments 0 and 1."""
    begin = moved_corners(mover, shift)
    return begin + moved_corners(begin, vector)


def swept_corners(mover, shift, vector):
    """The corners of all that the mover comes to on the leg."""
    begin = moved_corners(mover, shift)
    if vector == (0, 0):
        return begin
    stretch = ((0, 0), vector) if is_upper(vector) else (vector, (0, 0))
    return added_corners(begin, stretch)


def entered_direction(mover, still, shift, vector, moment):
    """The direction by which the mover, at the first moment above 0, comes to still."""
    for u, (most, _) in stand_borders(mover, still):
        speed, room = dot(u, vector), most - dot(u, shift)
        if speed < 0 and reduced(room, speed) == moment:
            return turned_about(u)
    return None
