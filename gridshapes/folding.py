"""Folds of a round shape in another one, without checks: by which shifts they fit."""

from gridshapes.clips import cut_by_all
from gridshapes.corners import borders_by, greatest_dot
from gridshapes.ratios import reduced
from gridshapes.shifting import shifted_triples
from gridshapes.triples import lowest_terms, over


def rooms_by(shape, other, fold):
    """The directions of the walls of the other one, each with its room for this fold of the shape."""
    top, bottom = fold
    return [(u, reduced(bottom * most - top * greatest_dot(shape, u), bottom)) for u, (most, _) in borders_by(other)]


def do_let(borders, triple):
    """Whether all walls let a point."""
    return all([over(wall, triple) <= 0 for wall in borders])


def fitting_triples(shape, other, fold):
    """The corners, from the lowest one, of all shifts by which this fold of the shape fits; [] if none does."""
    top, bottom = fold
    x, y = shape[0]
    # Where the fold fits, its first corner is in the other one: so all shifts are in that, moved back by this corner.
    back = lowest_terms(0 - top * x, 0 - top * y, bottom)
    return cut_by_all(shifted_triples(other, back), rooms_by(shape, other, fold))
