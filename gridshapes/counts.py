"""Points on the rim of whole corners, of any size and any number, and within, without checks."""

from gridshapes.corners import is_full, side_row, twice_by
from gridshapes.numbers import bare_and_length


def length_by(vector):
    _, length = bare_and_length(vector)
    return length


def rim_by(corners):
    lengths = [length_by(side) for side in side_row(corners)]
    if is_full(corners):
        return sum(lengths)
    return lengths[0] + 1 if lengths else 1


def core_by(corners):
    if not is_full(corners):
        return 0
    return (twice_by(corners) - rim_by(corners) + 2) // 2


def triple_by(corners):
    """The counting triple."""
    if is_full(corners):
        return (twice_by(corners), rim_by(corners), 2)
    return (0, 2 * (rim_by(corners) - 1), 2)


def counted(triple, k):
    """How many points are in the k-fold of a shape with this counting triple."""
    a, b, c = triple
    return (a * k * k + b * k + c) // 2
