"""Floors of whole lines, without checks and without going through them.

A line (a, b, m), m above 0, is at (a i + b) / m for each i.
"""

from gridshapes.ratios import rounded_up


def floors_by(n, a, b, m):
    """The sum of the floors at all i from 0 to n - 1."""
    total = 0
    sign = 1
    while n > 0:
        total += sign * ((a // m) * (n * (n - 1) // 2) + (b // m) * n)
        a, b = a % m, b % m
        most = (a * (n - 1) + b) // m
        # Each floor counts the steps up to it, and on each step those i are counted that are not behind it.
        total += sign * most * (n - 1)
        n, a, b, m, sign = most, m, m - b - 1, a, 0 - sign
    return total


def moments_by(n, a, b, m):
    """The sums of the floors, of i times the floor, and of the floor times itself, at all i from 0 to n - 1."""
    turns = []
    while n > 0:
        p, a = divmod(a, m)
        q, b = divmod(b, m)
        most = (a * (n - 1) + b) // m
        turns.append((n, p, q, most))
        n, a, b, m = most, m, m - b - 1, a
    f = g = h = 0
    for n, p, q, k in turns[::-1]:
        f, g, h = k * (n - 1) - f, (k * n * (n - 1) - h - f) // 2, k * k * (n - 1) - 2 * g - f
        ones, squares = n * (n - 1) // 2, (n - 1) * n * (2 * n - 1) // 6
        f, g, h = (
            f + p * ones + q * n,
            g + p * squares + q * ones,
            h + p * p * squares + 2 * p * q * ones + q * q * n + 2 * p * g + 2 * q * f)
    return (f, g, h)


def opened_at(lower, upper):
    """The least y at which one of both lines is at a whole number, None if they never are.

    At 0 both are between 0 and 1; the lower one does not rise, the upper one does not fall.
    """
    (a, b, m), (c, d, k) = lower, upper
    rows = []
    if a < 0:
        rows.append(rounded_up(b, 0 - a))
    if c > 0:
        rows.append(rounded_up(k - d, c))
    return min(rows, default=None)


def led_back(y, turns):
    """The row that belongs to y behind the turns of first_whole."""
    for a, b, m in turns[::-1]:
        y = rounded_up(a * y + b, m)
    return y


def first_whole(lower, upper):
    """The least y from 0 on such that a whole number is between two lines at y, None if there is none.

    At 0 the lower line is not above the upper one.
    """
    turns = []
    while True:
        (a, b, m), (c, d, k) = lower, upper
        if b * k > d * m:
            return None
        whole = d // k
        if b <= whole * m:
            return led_back(0, turns)
        slope = c // k
        a, b, c, d = a - slope * m, b - whole * m, c - slope * k, d - whole * k
        if a <= 0:
            y = opened_at((a, b, m), (c, d, k))
            return None if y is None else led_back(y, turns)
        if c == 0 or a >= m:
            return None
        # Both lines rise, by less than 1 a row: the first whole number is found by asking for its row from 1 on.
        lower, upper = (k, k - d, c), (m, m - b, a)
        turns.append(lower)
