"""Two or three walls that, with weights, bar every point."""

from itertools import combinations
from math import gcd, lcm

from gridshapes.numbers import cross, is_number, turned_about


def opposite_twos(directions):
    """The pairs of numbers, ascending, of bare directions that sum to (0, 0)."""
    turned = [turned_about(u) for u in directions]
    return [(i, j) for i, j in combinations(range(len(directions)), 2) if directions[i] == turned[j]]


def balanced_threes(directions):
    """Pairs of three numbers, ascending, and of weights above 0 by which these directions sum to (0, 0).

    No two of the three lie in a line; the weights perhaps have a common divisor.
    """
    turns = [[cross(u, v) for v in directions] for u in directions]
    rows = []
    for i, j in combinations(range(len(directions)), 2):
        c = turns[i][j]
        for k in range(j + 1, len(directions)):
            a, b = turns[j][k], turns[k][i]
            if a > 0 and b > 0 and c > 0:
                rows.append(((i, j, k), (a, b, c)))
            elif a < 0 and b < 0 and c < 0:
                rows.append(((i, j, k), (0 - a, 0 - b, 0 - c)))
    return rows


def weighted_sum(numbers, weights, worths):
    return sum([weight * worths[number] for number, weight in zip(numbers, weights)])


def barring_pairs(borders):
    """The first two walls, or else the first three, that bar a point: pairs (number, weight); () without any."""
    directions = [u for u, _ in borders]
    common = 1
    for _, (_, bottom) in borders:
        common = lcm(common, bottom)
    mosts = [top * (common // bottom) for _, (top, bottom) in borders]
    for i, j in opposite_twos(directions):
        if mosts[i] + mosts[j] < 0:
            return ((i, 1), (j, 1))
    for numbers, (a, b, c) in balanced_threes(directions):
        if weighted_sum(numbers, (a, b, c), mosts) < 0:
            common = gcd(gcd(a, b), c)
            return tuple([(number, weight // common) for number, weight in zip(numbers, (a, b, c))])
    return ()


def are_numbered(value, many):
    """Whether any value is a tuple of two or three pairs, the first things in them rising numbers below many."""
    if not isinstance(value, tuple) or not 2 <= len(value) <= 3:
        return False
    if not all([isinstance(pair, tuple) and len(pair) == 2 and is_number(pair[0]) for pair in value]):
        return False
    numbers = [number for number, _ in value]
    return 0 <= numbers[0] and numbers[-1] < many and all([i < j for i, j in zip(numbers, numbers[1:])])
