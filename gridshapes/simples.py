"""Loops, their clashes, and simple shapes."""

from gridshapes.corners import twice_by
from gridshapes.counts import core_by, rim_by
from gridshapes.errors import NoSimple
from gridshapes.loops import clashes_of, place_by, sides_at, told_loop
from gridshapes.numbers import is_number_pair, is_point, is_row, need_shift
from gridshapes.triples import triple_of

LOOP_LEAST = 3
LOOP_MOST = 12


def is_loop(value):
    return is_row(value, LOOP_LEAST, LOOP_MOST) and all([is_point(point) for point in value])


def need_loop(loop):
    if not is_loop(loop):
        raise NoSimple(None)


def first_clash(loop):
    need_loop(loop)
    clashes = clashes_of(loop)
    return clashes[0] if clashes else None


def is_clash(loop, value):
    need_loop(loop)
    return is_number_pair(value) and value in clashes_of(loop)


def all_clashes(loop):
    need_loop(loop)
    return clashes_of(loop)


def simple_of(loop):
    clash = first_clash(loop)
    if clash is not None:
        raise NoSimple(clash)
    return told_loop(loop)


def is_simple(value):
    if not isinstance(value, tuple) or not is_loop(value):
        return False
    return clashes_of(value) == [] and told_loop(value) == value


def need_simple(simple):
    if not is_simple(simple):
        raise NoSimple(simple)


def simple_twice(simple):
    need_simple(simple)
    return twice_by(simple)


def rim_points(simple):
    need_simple(simple)
    return rim_by(simple)


def points_within(simple):
    need_simple(simple)
    # What the area and the rim tell of the points within is so of all simple shapes, not of round ones alone.
    return core_by(simple)


def where_is(simple, point):
    need_simple(simple)
    need_shift(point)
    return place_by(simple, triple_of(point))


def sides_under(simple, point):
    need_simple(simple)
    need_shift(point)
    return sides_at(simple, triple_of(point))
