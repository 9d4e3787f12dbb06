"""Things in rows, counted by lines, without going through the rows.

A row line (first, end, a, b, m), m above 0, has the floor of (a y + b) / m in each row y from first to end - 1. The
lines of a lot together have in each row as many as there are things in it.
"""

from math import isqrt, lcm

from gridshapes.floors import floors_by


def worth_in(lines, y):
    """The sum of what the lines have in row y."""
    return sum([(a * y + b) // m for first, end, a, b, m in lines if first <= y < end])


def summed_rows(lines, low, high):
    """The sum of what the lines have in the rows from low to high - 1."""
    total = 0
    for first, end, a, b, m in lines:
        begin, behind = max(first, low), min(end, high)
        if begin < behind:
            total += floors_by(behind - begin, a, a * begin + b, m)
    return total


def levels_of(lines):
    """All rows at which a line begins or has ended, each once, ascending."""
    levels = {}
    for first, end, _, _, _ in lines:
        levels[first] = True
        levels[end] = True
    return sorted(list(levels))


def all_in(lines):
    levels = levels_of(lines)
    return summed_rows(lines, levels[0], levels[-1]) if levels else 0


def guessed_rows(lines, low, n):
    """About how many rows from low on have n things, each floor taken as a half less; None if that cannot be told."""
    common = 1
    for _, _, _, _, m in lines:
        common = lcm(common, m)
    slope = sum([a * (common // m) for _, _, a, _, m in lines])
    width = sum([(2 * (a * low + b) - m + 1) * (common // m) for _, _, a, b, m in lines]) - slope
    # The rows d are those with slope d d + width d = 2 common n.
    square = width * width + 8 * common * n * slope
    if square < 0 or width + isqrt(square) <= 0:
        return None
    return 4 * common * n // (width + isqrt(square))


def row_between(lines, low, high, n):
    """The row, from low to high - 1, that has the thing number n of these rows, and its number in it.

    All lines go through all these rows.
    """
    is_guessing = True
    while high - low > 1:
        middle = (low + high) // 2
        rows = guessed_rows(lines, low, n) if is_guessing else None
        # Halving each other time, it stays quick where the guesses are bad.
        is_guessing = not is_guessing
        if rows is not None and 0 < rows < high - low:
            middle = low + rows
        many = summed_rows(lines, low, middle)
        if many <= n:
            low, n = middle, n - many
        else:
            high = middle
    return (low, n)


def row_with(lines, n):
    """The row that has the thing number n, and the thing's number in this row; None if there are no more than n."""
    levels = levels_of(lines)
    for low, high in zip(levels, levels[1:]):
        through = [line for line in lines if line[0] <= low and high <= line[1]]
        many = summed_rows(through, low, high)
        if n < many:
            return row_between(through, low, high, n)
        n -= many
    return None
