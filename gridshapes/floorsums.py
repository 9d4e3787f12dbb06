"""Sums of floors and remainders, of numbers of any size."""

from gridshapes.errors import NoCount, NoNumber
from gridshapes.floors import first_whole, floors_by, moments_by
from gridshapes.numbers import is_number


def need_number(value):
    if not is_number(value):
        raise NoNumber(value)


def need_number_among(value, least, most):
    if not is_number(value) or not least <= value <= most:
        raise NoNumber(value)


def need_divisor(value):
    if not is_number(value) or value <= 0:
        raise NoNumber(value)


def need_floors(n, a, b, m):
    if not is_number(n) or n < 0:
        raise NoCount(n)
    need_number(a)
    need_number(b)
    need_divisor(m)


def floor_sum(n, a, b, m):
    need_floors(n, a, b, m)
    return floors_by(n, a, b, m)


def low_remainders(n, a, b, m, r):
    need_floors(n, a, b, m)
    need_number_among(r, 0, m)
    # Taking r away leads just the low remainders to a lesser floor.
    return floors_by(n, a, b, m) - floors_by(n, a, b - r, m)


def first_remainder(a, b, m, low, high):
    need_number(a)
    need_number(b)
    need_divisor(m)
    need_number_among(low, 0, m - 1)
    need_number_among(high, low, m - 1)
    # The remainder at i is in between just if a whole number is from (a i + b - high) / m to (a i + b - low) / m.
    return first_whole((a, b - high, m), (a, b - low, m))


def floor_moments(n, a, b, m):
    need_floors(n, a, b, m)
    return moments_by(n, a, b, m)
