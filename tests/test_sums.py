"""Sums, taking off, even shapes and mixed ([4], [0.2] (b))."""

import itertools
import random
import time
import unittest

from gridshapes.areas import multiple_of, twice_area
from gridshapes.errors import NoPoint, NoShape, NoVector, TooMany
from gridshapes.rounds import is_round, moved, sides_of
from gridshapes.sums import (
    accepts_rest, breadth_of, how_often, is_even, mixed_of, opposite_of, rest_of, rest_paper, stretches_of,
    sum_of, sum_of_all, sum_of_stretches)
from tests.reckon import (
    BIG, FLAT, KITE, LEVEL, POINT, SHAPES, SIX, SPOT, SQUARE, STRETCH, UPRIGHT, WEDGE, all_sums, cornered, dot,
    grid, hull, plus, random_full, random_shape, random_shapes, scaled)
from tests.wrong import (
    ODD_THINGS, WRONG_DIRECTIONS, WRONG_POINTS, WRONG_SHAPES, bent, check_calls, check_wrong, row_of_things,
    rows_of)

SUM = ((0, 0), (5, 0), (5, 1), (1, 4), (0, 4))
SHAPE_ROWS = rows_of(WRONG_SHAPES, NoShape)
TRIALS = SHAPES + tuple(random_shapes(30, 25))
# Beside each other they have 30 slopes in common, or none.
THIRTY = cornered(30)
TURNED_THIRTY = tuple(hull([(-y, x) for x, y in THIRTY]))
GREAT = ((-BIG, -BIG), (BIG, -BIG), (BIG, BIG), (-BIG, BIG))


class Sums(unittest.TestCase):
    def test_example(self):
        self.assertEqual(sum_of(WEDGE, SQUARE), SUM)
        self.assertEqual(sum_of_all([WEDGE, SQUARE]), SUM)

    def test_against_all_sums_of_corners(self):
        for one, other in itertools.product(TRIALS, SHAPES):
            told = check_calls(self, sum_of, ("one", "other"), (one, other))
            self.assertEqual(told, all_sums(one, other))
            self.assertEqual(sum_of(other, one), told)
            self.assertTrue(is_round(told))

    def test_point_shapes_move(self):
        for shape in TRIALS:
            self.assertEqual(sum_of(shape, SPOT), moved(shape, (3, -2)))
            self.assertEqual(sum_of(shape, POINT), shape)

    def test_sides_of_one_slope_are_put_together(self):
        self.assertEqual(sum_of(SQUARE, SQUARE), ((0, 0), (2, 0), (2, 2), (0, 2)))
        self.assertEqual(sum_of(STRETCH, ((0, 0), (2, 1))), ((0, 0), (6, 3)))
        self.assertEqual(sum_of(LEVEL, UPRIGHT), ((0, 0), (3, 0), (3, 5), (0, 5)))
        self.assertEqual(len(sum_of(cornered(60), cornered(60))), 60)
        self.assertEqual(len(sum_of(THIRTY, TURNED_THIRTY)), len(all_sums(THIRTY, TURNED_THIRTY)))

    def test_of_all(self):
        rng = random.Random(31)
        for many in (1, 2, 3, 5, 12):
            shapes = [random_shape(rng) for _ in range(many)]
            told = check_calls(self, sum_of_all, ("shapes",), (shapes,))
            expected = shapes[0]
            for shape in shapes[1:]:
                expected = all_sums(expected, shape)
            self.assertEqual(told, expected)
            rng.shuffle(shapes)
            self.assertEqual(sum_of_all(tuple(shapes)), told)

    def test_sixty_corners_and_more(self):
        self.assertEqual(sum_of(cornered(60), POINT), cornered(60))
        side = ((0, 0), (0, 1))
        just = sum_of(cornered(58), side)
        self.assertEqual(len(just), 60)
        self.assertEqual(just, all_sums(cornered(58), side))
        for call in (lambda: sum_of(cornered(60), side), lambda: sum_of_all([cornered(60), side]),
                     lambda: sum_of(side, cornered(59)), lambda: sum_of_all((cornered(58), side, ((0, 0), (-1, 5))))):
            with self.assertRaises(TooMany) as caught:
                call()
            self.assertEqual(caught.exception.most, 60)

    def test_told_points_may_be_greater(self):
        self.assertEqual(sum_of(GREAT, GREAT), scaled(GREAT, 2))
        self.assertEqual(sum_of_all([GREAT] * 12), scaled(GREAT, 12))

    def test_wrong(self):
        check_wrong(self, sum_of, ("one", "other"), (SQUARE, WEDGE), [SHAPE_ROWS, SHAPE_ROWS])
        check_wrong(self, sum_of_all, ("shapes",), ([SQUARE],), [row_of_things(SQUARE, WRONG_SHAPES, NoShape, 12)])

    def test_too_many_stands_behind(self):
        with self.assertRaises(NoShape):
            sum_of_all([cornered(60), ((0, 0), (0, 1)), None])

    def test_opposite(self):
        for shape in TRIALS + (cornered(60), cornered(59), GREAT):
            told = check_calls(self, opposite_of, ("shape",), (shape,))
            self.assertEqual(told, hull([(-x, -y) for x, y in shape]))
            self.assertEqual(opposite_of(told), shape)
        check_wrong(self, opposite_of, ("shape",), (SQUARE,), [SHAPE_ROWS])


def rest_by_trying(whole, part):
    """The rest by going through all points whose sums with all corners of the part are in the whole."""
    inside = [p for p in itertools.product(range(-14, 15), repeat=2)
              if all(plus(p, corner) in whole_grid(whole) for corner in part)]
    if not inside:
        return None
    told = hull(inside)
    return told if all_sums(told, part) == whole else None


GRIDS = {}


def whole_grid(whole):
    if whole not in GRIDS:
        GRIDS[whole] = grid(whole)
    return GRIDS[whole]


class TakingOff(unittest.TestCase):
    def test_example(self):
        self.assertEqual(rest_of(SUM, SQUARE), WEDGE)
        self.assertEqual(rest_of(SUM, WEDGE), SQUARE)
        self.assertEqual(rest_paper(SUM, WEDGE), ("rest", SQUARE))
        self.assertEqual(rest_paper(WEDGE, SQUARE), ("short", (0, 1), 0, 1))
        self.assertEqual(rest_paper(SQUARE, WEDGE), ("short", (1, 0), 1, 4))

    def test_what_was_put_together(self):
        for one, other in itertools.product(TRIALS, SHAPES):
            whole = all_sums(one, other)
            self.assertEqual(check_calls(self, rest_of, ("whole", "part"), (whole, other)), one)
            self.assertEqual(check_calls(self, rest_paper, ("whole", "part"), (whole, other)), ("rest", one))
            self.assertGreaterEqual(how_often(whole, other) or 1, 1)

    def test_against_going_through_all(self):
        rng = random.Random(32)
        some = 0
        for _ in range(60):
            whole = random_shape(rng, 3)
            if rng.randint(0, 1):
                whole = all_sums(whole, random_shape(rng, 2, 3))
            part = random_shape(rng, 1, 4)
            told = rest_of(whole, part)
            self.assertEqual(told, rest_by_trying(whole, part))
            self.assertEqual(rest_paper(whole, part)[0], "short" if told is None else "rest")
            some += told is not None
        self.assertGreater(some, 8)

    def test_edges(self):
        for shape in TRIALS:
            self.assertEqual(rest_of(shape, shape), POINT)
            self.assertEqual(rest_of(shape, SPOT), moved(shape, (-3, 2)))
            self.assertEqual(rest_of(SPOT, shape) is None, len(shape) > 1)
        self.assertEqual(rest_of(SPOT, POINT), SPOT)
        self.assertEqual(rest_of(STRETCH, ((1, 1), (3, 2))), ((-1, -1), (1, 0)))
        self.assertIsNone(rest_of(STRETCH, ((0, 0), (1, 1))))
        self.assertIsNone(rest_of(STRETCH, ((0, 0), (6, 3))))
        self.assertEqual(rest_of(SQUARE, ((0, 0), (0, 1))), ((0, 0), (1, 0)))
        self.assertIsNone(rest_of(WEDGE, ((0, 0), (1, 0))))
        far = ((BIG, BIG),)
        self.assertEqual(rest_of(((-BIG, -BIG),), far), ((-2 * BIG, -2 * BIG),))
        self.assertEqual(rest_of(cornered(60), cornered(58)), rest_of_sixty())

    def test_how_often(self):
        for whole, part in itertools.product(TRIALS, SHAPES):
            told = check_calls(self, how_often, ("whole", "part"), (whole, part))
            if len(part) == 1:
                self.assertIsNone(told)
                continue
            k = 0
            while rest_of(whole, multiple_of(part, k + 1)) is not None:
                k += 1
            self.assertEqual(told, k)
        self.assertEqual(how_often(scaled(KITE, 7), KITE), 7)
        self.assertEqual(how_often(all_sums(scaled(KITE, 7), WEDGE), KITE), 7)
        self.assertEqual(how_often(scaled(SQUARE, BIG), ((0, 0), (7, 0))), BIG // 7)
        self.assertEqual(how_often(GREAT, SQUARE), 2 * BIG)
        self.assertEqual(how_often(WEDGE, SQUARE), 0)
        self.assertIsNone(how_often(POINT, SPOT))
        self.assertEqual(how_often(POINT, STRETCH), 0)

    def test_first_short_side(self):
        self.assertEqual(rest_paper(SQUARE, scaled(SQUARE, 2)), ("short", (1, 0), 1, 2))
        self.assertEqual(rest_paper(((0, 0), (5, 0), (5, 1), (0, 1)), scaled(SQUARE, 2)), ("short", (0, 1), 1, 2))
        self.assertEqual(rest_paper(STRETCH, scaled(STRETCH, 3)), ("short", (2, 1), 2, 6))
        self.assertEqual(rest_paper(POINT, STRETCH), ("short", (2, 1), 0, 2))

    def test_wrong(self):
        for function in (rest_of, how_often, rest_paper):
            check_wrong(self, function, ("whole", "part"), (SQUARE, WEDGE), [SHAPE_ROWS, SHAPE_ROWS])
        check_wrong(self, accepts_rest, ("whole", "part", "paper"), (SQUARE, WEDGE, None), [SHAPE_ROWS, SHAPE_ROWS])


def rest_of_sixty():
    """cornered(60) has the sides of cornered(58) and two more."""
    more = [side for side in sides_of(cornered(60)) if side not in sides_of(cornered(58))]
    first = (cornered(60)[0][0] - cornered(58)[0][0], cornered(60)[0][1] - cornered(58)[0][1])
    return (first, plus(first, more[0]))


class RestPapers(unittest.TestCase):
    def test_told_ones_and_the_same_bent(self):
        for whole, part in itertools.product(TRIALS, SHAPES):
            paper = rest_paper(whole, part)
            told = check_calls(self, accepts_rest, ("whole", "part", "paper"), (whole, part, paper))
            self.assertIs(told, True)
            for other in bent(paper):
                self.assertIs(accepts_rest(whole, part, other), False, (whole, part, other))

    def test_each_short_side_is_right(self):
        self.assertIs(accepts_rest(WEDGE, SQUARE, ("short", (0, 1), 0, 1)), True)
        self.assertIs(accepts_rest(WEDGE, SQUARE, ("short", (-1, 0), 0, 1)), True)
        self.assertIs(accepts_rest(WEDGE, SQUARE, ("short", (1, 0), 4, 1)), False)
        self.assertIs(accepts_rest(WEDGE, SQUARE, ("short", (0, -1), 3, 1)), False)
        self.assertIs(accepts_rest(WEDGE, SQUARE, ("short", (0, 1), 0, 2)), False)
        self.assertIs(accepts_rest(WEDGE, SQUARE, ("short", (0, 1), -1, 1)), False)
        self.assertIs(accepts_rest(WEDGE, SQUARE, ("short", (0, 2), 0, 1)), False)
        self.assertIs(accepts_rest(WEDGE, SQUARE, ("short", (1, 1), 0, 1)), False)
        self.assertIs(accepts_rest(WEDGE, SQUARE, ("short", (0, 0), 0, 1)), False)
        self.assertIs(accepts_rest(WEDGE, SQUARE, ("short", (0, 1), False, True)), False)
        self.assertIs(accepts_rest(WEDGE, SQUARE, ("short", (False, True), 0, 1)), False)
        self.assertIs(accepts_rest(WEDGE, SQUARE, ("short", (0, 1), 0.0, 1)), False)
        self.assertIs(accepts_rest(WEDGE, SQUARE, ("short", [0, 1], 0, 1)), False)
        self.assertIs(accepts_rest(WEDGE, SQUARE, ("rest", WEDGE)), False)
        self.assertIs(accepts_rest(WEDGE, SQUARE, ("rest", None)), False)
        self.assertIs(accepts_rest(SQUARE, WEDGE, ("short", (-4, 3), 0, 1)), True)
        self.assertIs(accepts_rest(SQUARE, WEDGE, ("short", (0, -1), 1, 3)), True)
        self.assertIs(accepts_rest(SQUARE, POINT, ("short", (1, 0), 0, 1)), False)
        self.assertIs(accepts_rest(SQUARE, SQUARE, ("short", (1, 0), 1, 1)), False)

    def test_rests_of_any_size(self):
        whole, part = ((-BIG, -BIG), (BIG, BIG)), ((BIG, BIG),)
        rest = ((-2 * BIG, -2 * BIG), (0, 0))
        self.assertIs(accepts_rest(whole, part, ("rest", rest)), True)
        self.assertIs(accepts_rest(whole, part, ("rest", ((-2 * BIG, -2 * BIG), (0, 1)))), False)
        self.assertIs(accepts_rest(whole, part, ("rest", whole)), False)

    def test_only_the_told_form_of_the_rest(self):
        self.assertIs(accepts_rest(SUM, SQUARE, ("rest", WEDGE)), True)
        self.assertIs(accepts_rest(SUM, SQUARE, ("rest", WEDGE[1:] + WEDGE[:1])), False)
        self.assertIs(accepts_rest(SUM, SQUARE, ("rest", ((0, 0), (2, 0), (4, 0), (0, 3)))), False)
        self.assertIs(accepts_rest(SUM, SQUARE, ("rest", moved(WEDGE, (1, 0)))), False)
        self.assertIs(accepts_rest(SUM, SQUARE, ("rest", ((False, 0), (4, 0), (0, 3)))), False)
        self.assertIs(accepts_rest(SUM, SQUARE, ("rest", ((0.0, 0), (4, 0), (0, 3)))), False)

    def test_any_value(self):
        for paper in ODD_THINGS + (("rest",), ("short",), ("rest", None), ("short", None, 0, 1), ("short", (1, 0)),
                                   ("short", ([],), [], {}), ("short", (1, 0), None, None), ("rest", ((),)),
                                   ("rest", 5), (5, WEDGE), ("rest", WEDGE, None), ["rest", WEDGE],
                                   ("rest", (None,)), ("rest", ((0, 0), None, (0, 3)))):
            self.assertIs(accepts_rest(SUM, SQUARE, paper), False, paper)
            self.assertIs(accepts_rest(WEDGE, SQUARE, paper), False, paper)


class Even(unittest.TestCase):
    def test_small_ones(self):
        for shape, vectors in ((POINT, ()), (SPOT, ()), (STRETCH, ((4, 2),)), (SQUARE, ((1, 0), (0, 1))),
                               (LEVEL, ((3, 0),)), (UPRIGHT, ((0, 5),)), (WEDGE, None), (FLAT, None), (KITE, None),
                               (SIX, ((2, 0), (1, 1), (0, 2))), (SUM, None),
                               (((0, 0), (2, 0), (3, 1), (0, 1)), None)):
            self.assertEqual(check_calls(self, stretches_of, ("shape",), (shape,)), vectors)
            self.assertIs(check_calls(self, is_even, ("shape",), (shape,)), vectors is not None)

    def test_by_the_opposite(self):
        rng = random.Random(33)
        for shape in TRIALS:
            turned = opposite_of(shape)
            like = moved(turned, (shape[0][0] - turned[0][0], shape[0][1] - turned[0][1]))
            self.assertEqual(is_even(shape), like == shape)
            both = sum_of(shape, turned)
            self.assertTrue(is_even(both))
            self.assertEqual(sum_of_stretches(both[0], stretches_of(both)), both)
            if is_even(shape):
                vectors = list(stretches_of(shape))
                rng.shuffle(vectors)
                self.assertEqual(sum_of_stretches(shape[0], vectors), shape)

    def test_sums_of_stretches(self):
        rng = random.Random(34)
        for many in (0, 1, 2, 3, 5, 8):
            for _ in range(20):
                vectors = [(rng.randint(-3, 3), rng.randint(-3, 3)) for _ in range(many)]
                vectors = [v for v in vectors if v != (0, 0)]
                expected = POINT
                for v in vectors:
                    expected = all_sums(expected, hull([(0, 0), v]))
                first = (rng.randint(-9, 9), rng.randint(-9, 9))
                told = check_calls(self, sum_of_stretches, ("point", "vectors"), (first, vectors))
                self.assertEqual(told, tuple((x - expected[0][0] + first[0], y - expected[0][1] + first[1])
                                             for x, y in expected))
                self.assertEqual(sum_of_stretches(first, tuple(vectors)), told)

    def test_edges(self):
        self.assertEqual(sum_of_stretches((2, 3), []), ((2, 3),))
        self.assertEqual(sum_of_stretches((2, 3), [(-1, -1), (1, 1), (2, 2)]), ((2, 3), (6, 7)))
        self.assertEqual(sum_of_stretches((0, 0), [(-3, 0)]), ((0, 0), (3, 0)))
        self.assertEqual(sum_of_stretches((0, 0), [(0, -1), (-1, 0)]), SQUARE)
        vectors = [((-1) ** k * k, (-1) ** k) for k in range(30)]
        told = sum_of_stretches((BIG, BIG), vectors)
        self.assertEqual(len(told), 60)
        self.assertEqual(told[30], (BIG + 435, BIG + 30))
        self.assertEqual(stretches_of(sum_of_stretches((0, 0), vectors)), tuple((29 - k, 1) for k in range(30)))
        self.assertEqual(sum_of_stretches((BIG, BIG), [(10 * BIG, 0)]), ((BIG, BIG), (11 * BIG, BIG)))

    def test_wrong(self):
        check_wrong(self, is_even, ("shape",), (SQUARE,), [SHAPE_ROWS])
        check_wrong(self, stretches_of, ("shape",), (SQUARE,), [SHAPE_ROWS])
        check_wrong(self, sum_of_stretches, ("point", "vectors"), ((0, 0), [(1, 0)]), [
            rows_of(WRONG_POINTS, NoPoint), row_of_things((1, 0), WRONG_DIRECTIONS, NoVector, 30, least=0)])


class Mixed(unittest.TestCase):
    def test_example(self):
        self.assertEqual(mixed_of(WEDGE, SQUARE), 14)

    def test_by_the_sum(self):
        for one, other in itertools.product(TRIALS, SHAPES):
            told = check_calls(self, mixed_of, ("one", "other"), (one, other))
            self.assertEqual(told, twice_area(all_sums(one, other)) - twice_area(one) - twice_area(other))
            self.assertEqual(mixed_of(other, one), told)
            self.assertGreaterEqual(told, 0)
        for shape in TRIALS + (cornered(60),):
            self.assertEqual(mixed_of(shape, shape), 2 * twice_area(shape))
            self.assertEqual(mixed_of(shape, SPOT), 0)

    def test_of_more_than_sixty_corners(self):
        one, other = cornered(60), hull([(-y, x) for x, y in cornered(60)])
        both = all_sums(one, other)
        self.assertGreater(len(both), 60)
        area = sum(p[0] * q[1] - p[1] * q[0] for p, q in zip(both, both[1:] + both[:1]))
        self.assertEqual(mixed_of(one, other), area - 2 * twice_area(one))

    def test_sixty_digits(self):
        self.assertEqual(mixed_of(GREAT, GREAT), 16 * BIG * BIG)
        self.assertEqual(mixed_of(GREAT, SQUARE), 2 * (2 * BIG + 1) ** 2 - 8 * BIG * BIG - 2)

    def test_breadth(self):
        for shape in TRIALS + (GREAT, cornered(60)):
            for u in ((1, 0), (0, -1), (3, 2), (-4, 7), (10 * BIG, -1)):
                told = check_calls(self, breadth_of, ("shape", "u"), (shape, u))
                dots = [dot(u, p) for p in shape]
                self.assertEqual(told, max(dots) - min(dots))
                if abs(u[0]) < BIG:
                    turned = hull([(0, 0), (-u[1], u[0])])
                    self.assertEqual(2 * told, mixed_of(shape, turned))

    def test_wrong(self):
        check_wrong(self, mixed_of, ("one", "other"), (SQUARE, WEDGE), [SHAPE_ROWS, SHAPE_ROWS])
        check_wrong(self, breadth_of, ("shape", "u"), (SQUARE, (1, 0)), [
            SHAPE_ROWS, rows_of(WRONG_DIRECTIONS, NoVector)])


class Speed(unittest.TestCase):
    def test_sixty_corners_of_sixty_digits(self):
        rng = random.Random(35)
        one, other, part = cornered(60, BIG // 10 ** 4), random_full(rng, BIG, 12), cornered(10)
        begin = time.process_time()
        for _ in range(20):
            mixed_of(one, other)
            rest_paper(one, other)
            self.assertEqual(rest_of(sum_of(one, part), part), one)
        self.assertLess(time.process_time() - begin, 10)


if __name__ == "__main__":
    unittest.main()
