"""Values that are no such thing, and a check of what a function raises for them, one or two at once."""

import copy
import itertools

from gridshapes import errors
from tests.reckon import BIG, FINE_POINT, FINE_STRETCH, FINE_TRIANGLE, SQUARE, cornered, fine

PENTAGRAM = ((0, 0), (4, 3), (-1, 3), (3, 0), (1, 5))

ODD_THINGS = (None, True, False, 0, 7, "", "text", b"ab", [], (), {}, {1: 2}, 1.5, (None,), ((),), [[]], ("a", "b"))

WRONG_NUMBERS = (None, True, False, "1", 1.0, (1,), [1], {})

WRONG_PAIRS = ODD_THINGS + (
    [0, 0], (0,), (0, 0, 0), (0, True), (False, 0), (0, None), (0.0, 0), ("0", 0), ((0, 0),), ([0], 0))

WRONG_POINTS = WRONG_PAIRS + ((BIG + 1, 0), (0, BIG + 1), (-BIG - 1, 0), (0, -BIG - 1), ((0, 1), (0, 1)))

WRONG_SHIFTS = WRONG_PAIRS + (
    (BIG + 1, 0), (0, -BIG - 1), ((0, 1), 0), (0, (0, 1)), ((0, 1), (0, 2)), ((2, 4), (0, 1)), ((1, -1), (0, 1)),
    ((1, 0), (0, 1)), ((0, 1), (True, 1)), ((0, True), (0, 1)), [(0, 1), (0, 1)], ([0, 1], (0, 1)),
    ((0, 1), (0, 1), (0, 1)))

WRONG_VECTORS = WRONG_PAIRS + (
    (10 * BIG + 1, 0), (0, 10 * BIG + 1), (-10 * BIG - 1, 0), (0, -10 * BIG - 1), ((0, 1), (0, 1)))

WRONG_DIRECTIONS = WRONG_VECTORS + ((0, 0),)

WRONG_SHAPES = ODD_THINGS + (
    list(SQUARE), ([0, 0],), (0, 0), ((0, 0), (0, 0)), ((1, 0), (0, 0)), ((0, 1), (0, 0)), ((0, 0), (-1, 0)),
    ((0, 0), (0, 1), (1, 0)), ((1, 0), (0, 1), (0, 0)), ((0, 0), (1, 0), (2, 0), (0, 1)),
    ((0, 0), (1, 0), (0, 1), (0, 0)), ((0, 0), (4, 0), (1, 1), (0, 4)), ((0, 0), (1, 0), (2, 0)), PENTAGRAM,
    PENTAGRAM[:1] * 2, ((0, True),), ((0, 0), (True, 0)), ((0, 0, 0),), ((0, None),), (((0, 1), (0, 1)),),
    ((BIG + 1, 0),), ((0, 0), (0, BIG + 1)), ((0, -BIG - 1), (0, 0)), cornered(61), cornered(62),
    ((0, 0), (1, 0), (1, 1), [0, 1]), ((0, 0), (1, 0), (1, 1), (0, 1), (0, 0)))

WRONG_FINES = tuple(value for value in ODD_THINGS if value is not None) + (
    SQUARE, ((0, 0),), list(FINE_TRIANGLE), FINE_TRIANGLE[::-1], FINE_TRIANGLE[1:] + FINE_TRIANGLE[:1],
    FINE_STRETCH[::-1], FINE_POINT * 2, FINE_TRIANGLE + FINE_TRIANGLE[:1], (((2, 2), (0, 1)),), (((0, 1), (True, 1)),),
    (((0, 1), 0),), (((0, 1), (0, 2)),), ([(0, 1), (0, 1)],),
    (((0, 1), (0, 1)), ((1, 2), (0, 1)), ((1, 1), (0, 1)), ((0, 1), (1, 1))),
    (((0, 1), (0, 1)), ((1, 2), (0, 1)), ((1, 1), (0, 1))),
    tuple(fine(p) for p in PENTAGRAM), tuple(fine(p) for p in cornered(61)), tuple(fine(p) for p in cornered(62)))

WRONG_FINE_POINTS = WRONG_PAIRS + (
    (0, 0), (1, 2), ((0, 1), 0), (0, (0, 1)), ((0, 1), (0, 2)), ((2, 4), (0, 1)), ((1, -1), (0, 1)), ((1, 0), (0, 1)),
    ((0, 1), (True, 1)), ((0, True), (0, 1)), [(0, 1), (0, 1)], ([0, 1], (0, 1)), ((0, 1), (0, 1), (0, 1)))

WRONG_FRACTIONS = ODD_THINGS + (
    (2, 2), (0, 2), (1, -1), (0, 0), (1, 0), (True, 1), (1, True), [1, 2], (1, 2, 3), ((1, 2), (1, 2)), (1.0, 2))

THIRTEEN = ((0, 0), (12, 0), (12, 1), (11, 2), (10, 3), (9, 4), (8, 5), (7, 6), (6, 6), (5, 6), (4, 6), (3, 5), (0, 2))

WRONG_LOOPS = ODD_THINGS + (
    SQUARE[:2], list(SQUARE[:2]), [SQUARE], (SQUARE, SQUARE, SQUARE), THIRTEEN, list(THIRTEEN), THIRTEEN[:11] * 2,
    ((0, 0), (1, 0), (1, True)), [(0, 0), (1, 0), [1, 1]], ((0, 0), (1, 0), None), ((0, 0), (BIG + 1, 0), (0, 1)),
    ((0, 0), (0, -BIG - 1), (-1, 0)), (((0, 1), (0, 1)), ((1, 1), (0, 1)), ((0, 1), (1, 1))), {1: 2, 3: 4, 5: 6},
    "abc", (0, 1, 2))

CLASHING = (
    ((0, 0), (2, 2), (2, 0), (0, 2)), ((0, 0), (1, 0), (2, 0)), ((0, 0), (0, 0), (0, 0)), ((0, 0), (1, 0), (1, 0)),
    ((0, 0), (4, 0), (4, 4), (0, 4), (0, 0)), PENTAGRAM, ((0, 0), (4, 0), (2, 0), (2, 2)),
    ((0, 0), (4, 0), (4, 4), (2, 0), (0, 4)))

WRONG_SIMPLES = WRONG_LOOPS + CLASHING + (
    list(SQUARE), SQUARE[::-1], SQUARE[1:] + SQUARE[:1], SQUARE[:1] + SQUARE[:0:-1], ((0, 0), (1, 0), (2, 0), (0, 1)),
    ((1, 0), (2, 0), (0, 1), (0, 0)), ((1, 0), (0, 0), (0, 1)), [(0, 0), (1, 0), (0, 1)], ((2, 1), (0, 2), (1, 1)))


def rows_of(values, error):
    """Wrong values of one argument that are told themselves."""
    return [(value, error, value) for value in values]


def row_of_things(good, bads, error, most, least=1):
    """Wrong values of an argument that is a list of things, of which None or the index is told."""
    rows = [(value, error, None) for value in (None, True, 3, "ab", {}, {0: good}, b"a")]
    rows.append(([good] * (most + 1), error, None))
    rows.append(((good,) * (most + 1), error, None))
    rows.append((tuple([bads[0]] * (most + 1)), error, None))
    if least == 1:
        rows += [([], error, None), ((), error, None)]
    for bad in bads:
        rows.append(([bad], error, 0))
        rows.append(((good, bad, bads[0]), error, 1))
    rows.append(([good] * (most - 1) + [bads[0]], error, most - 1))
    return rows


def assert_raises_told(case, error, told, function, *args, **named):
    before = repr((args, named))
    try:
        told_instead = function(*args, **named)
    except errors.ShapeError as caught:
        case.assertIs(caught.__class__, error, before)
        if told is None or isinstance(told, int):
            case.assertIs(caught.told.__class__, told.__class__, before)
            case.assertEqual(caught.told, told, before)
        else:
            case.assertIs(caught.told, told, before)
    else:
        case.fail(f"{function.__name__} raised nothing for {before}, but told {told_instead!r}")
    case.assertEqual(repr((args, named)), before)


def check_wrong(case, function, names, good, wrong):
    """Each wrong value of each argument alone, and with one wrong value of each later argument."""
    case.assertEqual(len(names), len(good))
    function(*good)
    for at, rows in enumerate(wrong):
        for value, error, told in rows:
            args = list(good)
            args[at] = value
            assert_raises_told(case, error, told, function, *args)
    for at, later in itertools.combinations(range(len(wrong)), 2):
        for value, error, told in wrong[at][:3] + wrong[at][-3:]:
            for other, _, _ in wrong[later][:2] + wrong[later][-2:]:
                args = list(good)
                args[at], args[later] = value, other
                assert_raises_told(case, error, told, function, *args)
                backward = {name: args[k] for k, name in reversed(list(enumerate(names)))}
                assert_raises_told(case, error, told, function, **backward)


def check_calls(case, function, names, args):
    """By position, by name, and in another order all is the same, and what is handed in stays; returns it."""
    before = copy.deepcopy(args)
    told = function(*args)
    case.assertEqual(function(*args), told)
    case.assertEqual(function(**dict(zip(names, args))), told)
    case.assertEqual(function(**dict(reversed(list(zip(names, args))))), told)
    case.assertEqual(repr(args), repr(before))
    return told


def bent(value):
    """The same value with one part of another kind or length; none of them can be right as a paper."""
    if isinstance(value, tuple):
        yield list(value)
        yield value + (None,)
        yield value + value[-1:]
        yield value[:-1]
        yield ()
        yield dict(enumerate(value))
        for k, part in enumerate(value):
            for other in bent(part):
                yield value[:k] + (other,) + value[k + 1:]
    elif isinstance(value, str):
        yield from (value + "s", value.upper(), value.encode(), None, 0, True, (value,), "", "first-", "none-")
    elif isinstance(value, int):
        yield from (None, str(value), (value,), [value], {}, float(value) if abs(value) < BIG else "x")
        if value in (0, 1):
            yield bool(value)
    elif value is None:
        yield from (False, 0, "", (), [], "None")
