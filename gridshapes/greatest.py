"""Folds of round shapes, the greatest one that fits into another shape, and the papers of it."""

from gridshapes.barring import are_numbered, balanced_threes, opposite_twos, weighted_sum
from gridshapes.corners import borders_by, greatest_dot
from gridshapes.errors import NoFraction, NoShape
from gridshapes.fits import do_balance, weighed
from gridshapes.folding import do_let, fitting_triples, rooms_by
from gridshapes.numbers import is_fine_point, is_fraction
from gridshapes.papers import has_word
from gridshapes.ratios import ALL_OF_IT, NONE_OF_IT, reduced
from gridshapes.rounds import is_round, need_shape
from gridshapes.triples import fine_point_of, fine_points_of, triple_of


def is_fold(value):
    return is_fraction(value) and value[0] >= 0


def fine_fold(shape, s):
    need_shape(shape)
    if not is_fold(s):
        raise NoFraction(s)
    top, bottom = s
    if top == 0:
        return ((NONE_OF_IT, NONE_OF_IT),)
    return tuple([(reduced(top * x, bottom), reduced(top * y, bottom)) for x, y in shape])


def need_growing(shape, other):
    """As the greatest fit is asked of: a point shape fits in any fold."""
    if not is_round(shape) or len(shape) == 1:
        raise NoShape(shape)
    need_shape(other)


def greatest_by(shape, other):
    """The greatest fit, and the told pairs of walls and weights that show that none is greater."""
    borders = borders_by(other)
    directions = [u for u, _ in borders]
    reaches = [greatest_dot(shape, u) for u in directions]
    mosts = [most for _, (most, _) in borders]
    rows = [(pair, (1, 1)) for pair in opposite_twos(directions)] + balanced_threes(directions)
    best = None
    for numbers, weights in rows:
        breadth, room = weighted_sum(numbers, weights, reaches), weighted_sum(numbers, weights, mosts)
        # Two walls along a stretch leave it all folds.
        if breadth > 0 and (best is None or room * best[1] < best[0] * breadth):
            best = (room, breadth, numbers, weights)
    room, breadth, numbers, weights = best
    pairs = tuple([(number, reduced(weight, breadth)) for number, weight in zip(numbers, weights)])
    return reduced(room, breadth), pairs


def greatest_fit(shape, other):
    need_growing(shape, other)
    fold, _ = greatest_by(shape, other)
    return fold


def greatest_set(shape, other):
    need_growing(shape, other)
    fold, _ = greatest_by(shape, other)
    return fine_points_of(fitting_triples(shape, other, fold))


def least_multiple(shape, other):
    top, bottom = greatest_fit(shape, other)
    return (bottom, top) if top > 0 else None


def greatest_paper(shape, other):
    need_growing(shape, other)
    fold, pairs = greatest_by(shape, other)
    return ("greatest", fold, fine_point_of(fitting_triples(shape, other, fold)[0]), pairs)


def are_bounding(value, shape, other, fold):
    """Whether any value is a tuple of pairs of numbers and weights of walls by which no greater fold fits."""
    borders = borders_by(other)
    if not are_numbered(value, len(borders)):
        return False
    if not all([is_fraction(weight) and weight[0] > 0 for _, weight in value]):
        return False
    weights = [weight for _, weight in value]
    chosen = [borders[number] for number, _ in value]
    reaches = [(greatest_dot(shape, u), 1) for u, _ in chosen]
    if not do_balance(weights, [u for u, _ in chosen]) or weighed(weights, reaches) != ALL_OF_IT:
        return False
    return weighed(weights, [most for _, most in chosen]) == fold


def accepts_greatest(shape, other, value):
    need_growing(shape, other)
    if not has_word(value, "greatest", 4):
        return False
    _, fold, t, pairs = value
    if not is_fold(fold) or not is_fine_point(t) or not do_let(rooms_by(shape, other, fold), triple_of(t)):
        return False
    return are_bounding(pairs, shape, other, fold)
