"""What round rows of corners, as triples, have in common."""

from gridshapes.corners import borders_by
from gridshapes.triples import from_lowest, lowest_terms, over, triples_of


def crossing(one, other, gap, other_gap):
    """Where a stretch crosses a wall's line: both gaps ("over") are not 0, one of them below it."""
    left, right = abs(other_gap), abs(gap)
    x, y, w = [left * a + right * b for a, b in zip(one, other)]
    return lowest_terms(x, y, w)


def cut(triples, wall):
    """The row of corners of what the wall lets, turning as before; [] if that is nothing."""
    gaps = [over(wall, triple) for triple in triples]
    kept = []
    for k, triple in enumerate(triples):
        if gaps[k - 1] * gaps[k] < 0:
            point = crossing(triples[k - 1], triple, gaps[k - 1], gaps[k])
            # A stretch is gone along there and back, so its only crossing comes twice.
            if point not in kept:
                kept.append(point)
        if gaps[k] <= 0:
            kept.append(triple)
    return kept


def cut_by_all(triples, walls):
    for wall in walls:
        if not triples:
            return []
        triples = cut(triples, wall)
    return from_lowest(triples)


def common_triples(triples, shapes):
    """The corners, from the lowest one, of what is in a row of triples and in round shapes."""
    for shape in shapes:
        triples = cut_by_all(triples, borders_by(shape))
    return triples


def common_of(shapes):
    return common_triples(triples_of(shapes[0]), shapes[1:])
