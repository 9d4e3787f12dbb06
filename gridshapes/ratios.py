"""Fractions, as tuples (a, b) in lowest terms with b above 0, reckoned without checks."""

from math import gcd, lcm

NONE_OF_IT = (0, 1)
ALL_OF_IT = (1, 1)


def reduced(top, bottom):
    """The fraction top / bottom; bottom is not 0, perhaps below it."""
    common = gcd(top, bottom)
    if bottom < 0:
        common = 0 - common
    return (top // common, bottom // common)


def is_less(one, other):
    return one[0] * other[1] < other[0] * one[1]


def greater_of(one, other):
    return other if is_less(one, other) else one


def lesser_of(one, other):
    return other if is_less(other, one) else one


def least_ratio(ratios):
    least = ratios[0]
    for ratio in ratios:
        least = lesser_of(least, ratio)
    return least


def ratio_sum(one, other):
    return reduced(one[0] * other[1] + other[0] * one[1], one[1] * other[1])


def ratio_product(one, other):
    return reduced(one[0] * other[0], one[1] * other[1])


def rounded_up(top, bottom):
    """The least whole number that is not below top / bottom; bottom is above 0."""
    return 0 - (0 - top) // bottom


def middle_of(one, other):
    return reduced(one[0] * other[1] + other[0] * one[1], 2 * one[1] * other[1])


def in_order(rows):
    """Tuples of a fraction and a number, by the values of the fractions, then the numbers."""
    common = 1
    for fraction, _ in rows:
        common = lcm(common, fraction[1])
    return sorted(rows, key=lambda row: (row[0][0] * (common // row[0][1]), row[1]))
