"""Where a round shape fits into another one, what it reaches there, and the papers of both."""

from gridshapes.barring import are_numbered, barring_pairs
from gridshapes.clips import cut_by_all
from gridshapes.corners import borders_by, side_row
from gridshapes.errors import NoFine, NoPlace
from gridshapes.folding import do_let, fitting_triples, rooms_by
from gridshapes.numbers import dot, is_fine_point, is_number, is_slope_ahead, need_direction, turned_about
from gridshapes.papers import has_word
from gridshapes.ratios import ALL_OF_IT, NONE_OF_IT, least_ratio, ratio_product, ratio_sum, reduced
from gridshapes.rounds import need_shape
from gridshapes.sums import told_corners
from gridshapes.triples import fine_point_of, fine_points_of, over, triple_of, triple_sum, whole_sides


def need_fine_point(point):
    if not is_fine_point(point):
        raise NoFine(point)


def need_fit(shape, other):
    need_shape(shape)
    need_shape(other)


def rooms_in(shape, other):
    return rooms_by(shape, other, ALL_OF_IT)


def rooms_of(shape, other):
    need_fit(shape, other)
    return tuple([room for _, room in rooms_in(shape, other)])


def does_fit(shape, other, t):
    need_fit(shape, other)
    need_fine_point(t)
    return do_let(rooms_in(shape, other), triple_of(t))


def fits_in(shape, other):
    """The corners, as triples, of the fit set."""
    return fitting_triples(shape, other, ALL_OF_IT)


def fit_set(shape, other):
    need_fit(shape, other)
    triples = fits_in(shape, other)
    return fine_points_of(triples) if triples else None


def touched_numbers(shape, other, t):
    need_fit(shape, other)
    need_fine_point(t)
    gaps = [over(wall, triple_of(t)) for wall in rooms_in(shape, other)]
    if max(gaps) > 0:
        raise NoPlace(t)
    return tuple([number for number, gap in enumerate(gaps) if gap == 0])


def farthest(shape, other, t, v):
    need_fit(shape, other)
    need_fine_point(t)
    need_direction(v)
    rooms = rooms_in(shape, other)
    triple = triple_of(t)
    if not do_let(rooms, triple):
        raise NoPlace(t)
    moments = []
    for u, room in rooms:
        speed = dot(u, v)
        if speed > 0:
            moments.append(reduced(0 - over((u, room), triple), room[1] * triple[2] * speed))
    return least_ratio(moments)


def fit_paper(shape, other):
    need_fit(shape, other)
    triples = fits_in(shape, other)
    if triples:
        return ("fits", fine_point_of(triples[0]))
    return ("none", barring_pairs(rooms_in(shape, other)))


def weighed(weights, worths):
    """The sum of all weights, each times its worth: fractions."""
    total = NONE_OF_IT
    for weight, worth in zip(weights, worths):
        total = ratio_sum(total, ratio_product(weight, worth))
    return total


def do_balance(weights, directions):
    """Whether directions, with weights that are fractions, sum to (0, 0)."""
    across = weighed(weights, [(x, 1) for x, _ in directions])
    upward = weighed(weights, [(y, 1) for _, y in directions])
    return across == NONE_OF_IT and upward == NONE_OF_IT


def are_barring(value, borders):
    """Whether any value is a tuple of pairs of numbers and weights of walls that bar all points."""
    if not are_numbered(value, len(borders)):
        return False
    if not all([is_number(weight) and weight > 0 for _, weight in value]):
        return False
    weights = [(weight, 1) for _, weight in value]
    chosen = [borders[number] for number, _ in value]
    return do_balance(weights, [u for u, _ in chosen]) and weighed(weights, [room for _, room in chosen])[0] < 0


def accepts_fit(shape, other, value):
    need_fit(shape, other)
    rooms = rooms_in(shape, other)
    if has_word(value, "fits", 2):
        return is_fine_point(value[1]) and do_let(rooms, triple_of(value[1]))
    return has_word(value, "none", 2) and are_barring(value[1], rooms)


def added_triples(triples, corners):
    """The corners, as triples, of all sums of a point of the one, told by triples, and one of the other."""
    sides, other_sides = whole_sides(triples), side_row(corners)
    added = [triple_sum(triples[0], triple_of(corners[0]))]
    i = j = 0
    while i < len(sides) or j < len(other_sides):
        # Of two sides of one slope both are gone along at once.
        goes_one = j == len(other_sides) or (i < len(sides) and not is_slope_ahead(other_sides[j], sides[i]))
        goes_other = i == len(sides) or (j < len(other_sides) and not is_slope_ahead(sides[i], other_sides[j]))
        if goes_one:
            i += 1
        if goes_other:
            j += 1
        added.append(triple_sum(triples[i % len(triples)], triple_of(corners[j % len(corners)])))
    # Behind the last side stands the first corner once more.
    return added[:max(1, len(added) - 1)]


def reached_shape(shape, other):
    need_fit(shape, other)
    triples = fits_in(shape, other)
    if not triples:
        return None
    return fine_points_of(told_corners(added_triples(triples, shape)))


def borders_at(shape, triple):
    """The walls that let just the shifts by which the shape has a point in it."""
    x, y, w = triple
    return [(turned_about(u), reduced(most * w - dot(u, (x, y)), w)) for u, (most, _) in borders_by(shape)]


def reaching_triples(shape, other, triple):
    """The corners of all fits by which a point is in the shape."""
    return cut_by_all(fits_in(shape, other), borders_at(shape, triple))


def is_reached(shape, other, p):
    need_fit(shape, other)
    need_fine_point(p)
    return reaching_triples(shape, other, triple_of(p)) != []


def reach_paper(shape, other, p):
    need_fit(shape, other)
    need_fine_point(p)
    triples = reaching_triples(shape, other, triple_of(p))
    if triples:
        return ("by", fine_point_of(triples[0]))
    return ("never", barring_pairs(rooms_in(shape, other) + borders_at(shape, triple_of(p))))


def accepts_reach(shape, other, p, value):
    need_fit(shape, other)
    need_fine_point(p)
    borders = rooms_in(shape, other) + borders_at(shape, triple_of(p))
    if has_word(value, "by", 2):
        return is_fine_point(value[1]) and do_let(borders, triple_of(value[1]))
    return has_word(value, "never", 2) and are_barring(value[1], borders)
