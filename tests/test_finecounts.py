"""The grid points of fine shapes, in rows and in order ([9], [0.2] (f))."""

import math
import random
import time
import unittest
from fractions import Fraction

from gridshapes.areas import core_of, points_in, rim_of
from gridshapes.commons import common_part
from gridshapes.errors import NoCount, NoFine, NoNumber, NoPoint
from gridshapes.finecounts import (
    first_row, grid_points_in, grid_points_on_rim, grid_points_within, last_row, next_point, nth_point,
    points_in_rows, rank_of, row_of, spread_of, stretch_points)
from gridshapes.fits import fit_set
from gridshapes.rounds import fine_of, is_fine_shape
from tests.reckon import (
    BIG, FINE_POINT, FINE_STRETCH, FINE_TRIANGLE, GREAT, KITE, POINT, SHAPES, SPOT, SQUARE, WEDGE, cornered, fine,
    fractions, grid, hull, place, random_shapes, scaled)
from tests.wrong import (
    WRONG_FINE_POINTS, WRONG_FINES, WRONG_NUMBERS, WRONG_POINTS, check_calls, check_wrong, rows_of)

FINE_ROWS = rows_of(WRONG_FINES, NoFine)
NUMBER_ROWS = rows_of(WRONG_NUMBERS, NoNumber)
POINT_ROWS = rows_of(WRONG_POINTS, NoPoint)
COUNT_ROWS = rows_of(WRONG_NUMBERS + (-1, -BIG), NoCount)
COUNTS = (grid_points_in, grid_points_within, grid_points_on_rim)
# No grid point in any of them, though the first one has many rows.
EMPTY = (
    (((1, 2), (-9, 1)), ((1, 2), (9, 1))),
    (((1, 3), (1, 3)), ((2, 3), (1, 3)), ((2, 3), (2, 3)), ((1, 3), (2, 3))),
    (((1, 3), (-1, 2)), ((2, 3), (-1, 2)), ((2, 3), (7, 2)), ((1, 3), (7, 2))),
    (((1, 7), (0, 1)), ((6, 7), (0, 1))), (((-3, 1), (1, 2)), ((9, 1), (1, 2))),
    (((1, 2), (0, 1)),), (((0, 1), (1, 2)),))


def told(corners):
    return tuple(fine(corner) for corner in corners)


def fine_hulls(seed, many):
    """Hulls of fine points, as lists of Fractions: flat, thin, with grid points on the rim, and others."""
    rng = random.Random(seed)
    for _ in range(many):
        w = rng.choice((1, 2, 2, 3, 4, 7))
        v = rng.choice((1, 2, 3, 5))
        size = rng.choice((2, 4, 6))
        points = [(Fraction(rng.randint(-size * w, size * w), w), Fraction(rng.randint(-size * v, size * v), v))
                  for _ in range(rng.choice((1, 2, 2, 3, 3, 4, 5, 8)))]
        if rng.randint(0, 9) == 0:
            points = [(x, points[0][1]) for x, _ in points]
        yield hull(points)


def ordered(corners):
    """The grid points by y, then x, as points."""
    return sorted(grid(corners), key=lambda p: (p[1], p[0]))


class Counts(unittest.TestCase):
    def test_example(self):
        self.assertEqual(grid_points_in(FINE_TRIANGLE), 3)
        self.assertEqual(nth_point(FINE_TRIANGLE, 2), (0, 1))
        self.assertEqual(stretch_points(((0, 1), (1, 2)), ((4, 1), (5, 2))), ((1, 1), (2, 1), 2))

    def test_against_all_grid_points(self):
        some = {"in": 0, "within": 0}
        for corners in fine_hulls(180, 400):
            places = list(grid(corners).values())
            shape = told(corners)
            self.assertIs(is_fine_shape(shape), True)
            self.assertEqual(check_calls(self, grid_points_in, ("fine",), (shape,)), len(places), corners)
            self.assertEqual(check_calls(self, grid_points_within, ("fine",), (shape,)), places.count("within"))
            self.assertEqual(check_calls(self, grid_points_on_rim, ("fine",), (shape,)), places.count("rim"), corners)
            some["in"] += len(places) > 0
            some["within"] += "within" in places and "rim" in places
        self.assertGreater(min(some.values()), 50)

    def test_of_round_shapes(self):
        for shape in SHAPES + tuple(random_shapes(181, 60)) + (cornered(60), cornered(7), GREAT):
            whole = fine_of(shape)
            self.assertEqual(grid_points_in(whole), points_in(shape))
            self.assertEqual(grid_points_on_rim(whole), rim_of(shape))
            self.assertEqual(grid_points_within(whole), core_of(shape))

    def test_none_and_shapes_without_grid_points(self):
        for shape in (None,) + EMPTY:
            for function in COUNTS:
                self.assertEqual(check_calls(self, function, ("fine",), (shape,)), 0)
            self.assertIsNone(first_row(shape))
            self.assertIsNone(last_row(shape))
            self.assertEqual(spread_of(shape), (0, 0, 0))
            self.assertIsNone(row_of(shape, 0))
            self.assertEqual(points_in_rows(shape, -BIG, BIG), 0)
            self.assertEqual(rank_of(shape, (BIG, BIG)), 0)
            self.assertIsNone(nth_point(shape, 0))
            self.assertIsNone(next_point(shape, (-BIG, -BIG)))

    def test_single_points(self):
        spot = fine_of(SPOT)
        self.assertEqual([function(spot) for function in COUNTS], [1, 0, 1])
        self.assertEqual((first_row(spot), last_row(spot), spread_of(spot)), (-2, -2, (1, 3, -2)))
        self.assertEqual((row_of(spot, -2), row_of(spot, -1), row_of(spot, -3)), ((3, 3), None, None))
        self.assertEqual([rank_of(spot, p) for p in ((2, -2), (3, -2), (4, -2), (9, -3), (-9, -1))], [0, 0, 1, 0, 1])
        self.assertEqual((nth_point(spot, 0), nth_point(spot, 1)), ((3, -2), None))
        self.assertEqual([next_point(spot, p) for p in ((2, -2), (3, -2), (9, -3), (-9, -1))],
                         [(3, -2), None, (3, -2), None])

    def test_sixty_digits_and_more(self):
        self.assertEqual(grid_points_in(fine_of(GREAT)), (2 * BIG + 1) ** 2)
        small = (((1, BIG), (1, BIG)), ((BIG - 1, BIG), (1, BIG)), ((1, BIG), (BIG - 1, BIG)))
        self.assertEqual([function(small) for function in COUNTS], [0, 0, 0])
        # Half a step more than the whole numbers, on each side.
        wide = tuple(fine((x * (BIG + Fraction(1, 2)), y * (BIG + Fraction(1, 2)))) for x, y in (
            (-1, -1), (1, -1), (1, 1), (-1, 1)))
        self.assertEqual([function(wide) for function in COUNTS], [(2 * BIG + 1) ** 2] * 2 + [0])
        self.assertEqual(spread_of(wide), ((2 * BIG + 1) ** 2, 0, 0))
        triangle = (((0, 1), (0, 1)), ((BIG ** 3, 1), (0, 1)), ((0, 1), (BIG ** 3, 1)))
        many = BIG ** 3
        self.assertEqual([function(triangle) for function in COUNTS],
                         [(many + 1) * (many + 2) // 2, (many - 1) * (many - 2) // 2, 3 * many])

    def test_wrong(self):
        for function in COUNTS + (first_row, last_row, spread_of):
            check_wrong(self, function, ("fine",), (FINE_TRIANGLE,), [FINE_ROWS])


class Rows(unittest.TestCase):
    def test_against_all_grid_points(self):
        rng = random.Random(182)
        for corners in fine_hulls(183, 200):
            points = grid(corners)
            shape = told(corners)
            for y in range(-8, 9):
                row = [x for x, at in points if at == y]
                expected = (min(row), max(row)) if row else None
                self.assertEqual(check_calls(self, row_of, ("fine", "y"), (shape, y)), expected)
            for _ in range(5):
                low, high = rng.randint(-8, 8), rng.randint(-8, 8)
                many = check_calls(self, points_in_rows, ("fine", "low", "high"), (shape, low, high))
                self.assertEqual(many, len([1 for _, y in points if low <= y <= high]))
            rows = [y for _, y in points]
            self.assertEqual(check_calls(self, first_row, ("fine",), (shape,)), min(rows, default=None), corners)
            self.assertEqual(check_calls(self, last_row, ("fine",), (shape,)), max(rows, default=None), corners)

    def test_edges(self):
        self.assertEqual(row_of(FINE_TRIANGLE, 0), (0, 1))
        self.assertEqual(row_of(FINE_TRIANGLE, 1), (0, 0))
        self.assertIsNone(row_of(FINE_TRIANGLE, 2))
        self.assertIsNone(row_of(FINE_TRIANGLE, BIG ** 3))
        self.assertIsNone(row_of(FINE_TRIANGLE, -BIG ** 3))
        self.assertEqual(points_in_rows(FINE_TRIANGLE, -BIG ** 3, BIG ** 3), 3)
        self.assertEqual(points_in_rows(FINE_TRIANGLE, 0, 0), 2)
        self.assertEqual(points_in_rows(FINE_TRIANGLE, 1, 0), 0)
        self.assertEqual(points_in_rows(FINE_TRIANGLE, 2, 9), 0)
        self.assertEqual(points_in_rows(fine_of(GREAT), 0, BIG), (2 * BIG + 1) * (BIG + 1))

    def test_few_grid_points_among_many_rows(self):
        # Along x = y / 3 + 1 / 3, a little wider than a line.
        bit = Fraction(1, 10 ** 40)
        base = hull([(Fraction(1, 3) - bit, Fraction(0)), (Fraction(1, 3) + bit, Fraction(0)),
                     (10 ** 20 + Fraction(1, 3), Fraction(3 * 10 ** 20))])
        shape = told(base)
        self.assertEqual((first_row(shape), last_row(shape)), (2, 3 * 10 ** 20 - 1))
        self.assertEqual(grid_points_in(shape), 10 ** 20)
        self.assertEqual(next_point(shape, (0, 2)), (1, 2))
        self.assertEqual(next_point(shape, (1, 2)), (2, 5))
        self.assertEqual(nth_point(shape, 10 ** 15), (10 ** 15 + 1, 3 * 10 ** 15 + 2))
        self.assertEqual(rank_of(shape, (0, 3 * 10 ** 15 + 2)), 10 ** 15)
        # A thin one, far from a line of small numbers: its only grid points are far within.
        p, q = 10 ** 29 + 319, 3 * 10 ** 29 + 17
        x, y = p - 7, q - 11
        corners = hull([(Fraction(x, 2) - 1, Fraction(-y, 2)), (Fraction(x), Fraction(y)),
                        (Fraction(3 * x, 2) + 1, Fraction(5 * y, 2))])
        shape = told(corners)
        many = grid_points_in(shape)
        rows = [nth_point(shape, k) for k in (0, 1, many // 2, many - 1)]
        self.assertEqual((rows[0][1], rows[-1][1]), (first_row(shape), last_row(shape)))
        for k, p in zip((0, 1, many // 2, many - 1), rows):
            self.assertNotEqual(place(corners, p), "out")
            self.assertEqual(rank_of(shape, p), k)

    def test_wrong(self):
        check_wrong(self, row_of, ("fine", "y"), (FINE_TRIANGLE, 0), [FINE_ROWS, NUMBER_ROWS])
        check_wrong(self, points_in_rows, ("fine", "low", "high"), (FINE_TRIANGLE, 0, 1),
                    [FINE_ROWS, NUMBER_ROWS, NUMBER_ROWS])
        for shape in (None,) + EMPTY:
            check_wrong(self, row_of, ("fine", "y"), (shape, 0), [FINE_ROWS, NUMBER_ROWS])
            check_wrong(self, points_in_rows, ("fine", "low", "high"), (shape, 1, 0),
                        [FINE_ROWS, NUMBER_ROWS, NUMBER_ROWS])


class Order(unittest.TestCase):
    def test_ranks_and_numbers(self):
        for corners in fine_hulls(184, 150):
            points = ordered(corners)
            shape = told(corners)
            for n, p in enumerate(points):
                self.assertEqual(nth_point(shape, n), p, (corners, n))
                self.assertEqual(rank_of(shape, p), n)
            self.assertIsNone(check_calls(self, nth_point, ("fine", "n"), (shape, len(points))))
            self.assertIsNone(nth_point(shape, BIG ** 3))
            for x in range(-8, 9, 3):
                for y in range(-8, 9, 2):
                    ahead = [p for p in points if (p[1], p[0]) < (y, x)]
                    self.assertEqual(rank_of(shape, (x, y)), len(ahead))
                    behind = [p for p in points if (p[1], p[0]) > (y, x)]
                    self.assertEqual(next_point(shape, (x, y)), behind[0] if behind else None, (corners, x, y))
            check_calls(self, rank_of, ("fine", "point"), (shape, (0, 0)))
            check_calls(self, next_point, ("fine", "point"), (shape, (0, 0)))

    def test_next_points_lead_through_all(self):
        for corners in fine_hulls(185, 60):
            points = ordered(corners)
            row = []
            p = next_point(told(corners), (0, -BIG))
            while p is not None:
                row.append(p)
                p = next_point(told(corners), p)
            self.assertEqual(row, points)

    def test_edges(self):
        self.assertEqual([nth_point(FINE_TRIANGLE, n) for n in range(4)], [(0, 0), (1, 0), (0, 1), None])
        self.assertEqual(rank_of(FINE_TRIANGLE, (BIG, BIG)), 3)
        self.assertEqual(rank_of(FINE_TRIANGLE, (-BIG, -BIG)), 0)
        self.assertEqual(next_point(FINE_TRIANGLE, (1, 0)), (0, 1))
        self.assertEqual(next_point(FINE_TRIANGLE, (-5, 1)), (0, 1))
        self.assertIsNone(next_point(FINE_TRIANGLE, (0, 1)))
        great = fine_of(GREAT)
        self.assertEqual(nth_point(great, 0), (-BIG, -BIG))
        self.assertEqual(nth_point(great, (2 * BIG + 1) ** 2 - 1), (BIG, BIG))
        self.assertIsNone(nth_point(great, (2 * BIG + 1) ** 2))
        self.assertEqual(nth_point(great, (2 * BIG + 1) * BIG + 5), (5 - BIG, 0))
        self.assertEqual(rank_of(great, (0, 0)), (2 * BIG + 1) * BIG + BIG)
        self.assertEqual(next_point(great, (BIG, 0)), (-BIG, 1))

    def test_great_shapes(self):
        rng = random.Random(186)
        for digits in (20, 60):
            for _ in range(6):
                top = 10 ** digits
                corners = hull([(Fraction(rng.randint(-top, top), rng.choice((1, 7, top // 3))),
                                 Fraction(rng.randint(-top, top), rng.choice((1, 2, top // 5)))) for _ in range(5)])
                shape = told(corners)
                many = grid_points_in(shape)
                for n in {0, 1, many // 3, many // 2, many - 2, many - 1}:
                    if not 0 <= n < many:
                        continue
                    p = nth_point(shape, n)
                    self.assertNotEqual(place(corners, p), "out")
                    self.assertEqual(rank_of(shape, p), n)
                    self.assertEqual(points_in_rows(shape, first_row(shape), p[1] - 1),
                                     n - (p[0] - row_of(shape, p[1])[0]))
                    self.assertEqual(next_point(shape, p), nth_point(shape, n + 1))
                self.assertIsNone(nth_point(shape, many))

    def test_wrong(self):
        for shape in (FINE_TRIANGLE, None) + EMPTY[:2]:
            check_wrong(self, rank_of, ("fine", "point"), (shape, (0, 0)), [FINE_ROWS, POINT_ROWS])
            check_wrong(self, next_point, ("fine", "point"), (shape, (0, 0)), [FINE_ROWS, POINT_ROWS])
            check_wrong(self, nth_point, ("fine", "n"), (shape, 0), [FINE_ROWS, COUNT_ROWS])


class Stretches(unittest.TestCase):
    names = ("one", "other")

    def test_against_all_grid_points(self):
        rng = random.Random(187)
        lengths = {}
        for _ in range(600):
            w, v = rng.choice((1, 1, 2, 3, 6)), rng.choice((1, 1, 2, 5))
            ends = [(Fraction(rng.randint(-5 * w, 5 * w), w), Fraction(rng.randint(-5 * v, 5 * v), v))
                    for _ in range(2)]
            if rng.randint(0, 9) == 0:
                ends[1] = (ends[0][0], ends[1][1])
            if rng.randint(0, 9) == 0:
                ends[1] = (ends[1][0], ends[0][1])
            if rng.randint(0, 9) == 0:
                ends[1] = ends[0]
            points = ordered(hull(ends))
            expected = None
            if len(points) == 1:
                expected = (points[0], (0, 0), 1)
            elif points:
                step = (points[1][0] - points[0][0], points[1][1] - points[0][1])
                self.assertEqual(math.gcd(*step), 1)
                expected = (points[0], step, len(points))
            args = (fine(ends[0]), fine(ends[1]))
            self.assertEqual(check_calls(self, stretch_points, self.names, args), expected, ends)
            self.assertEqual(stretch_points(*args[::-1]), expected)
            lengths[len(points)] = True
        self.assertGreater(len(lengths), 6)

    def test_edges(self):
        self.assertEqual(stretch_points(((3, 1), (0, 1)), ((-3, 1), (0, 1))), ((-3, 0), (1, 0), 7))
        self.assertEqual(stretch_points(((0, 1), (3, 1)), ((0, 1), (-3, 1))), ((0, -3), (0, 1), 7))
        self.assertEqual(stretch_points(((0, 1), (0, 1)), ((-4, 1), (2, 1))), ((0, 0), (-2, 1), 3))
        self.assertEqual(stretch_points(((5, 1), (7, 1)), ((5, 1), (7, 1))), ((5, 7), (0, 0), 1))
        self.assertIsNone(stretch_points(((1, 2), (7, 1)), ((1, 2), (7, 1))))
        self.assertIsNone(stretch_points(((1, 2), (0, 1)), ((1, 2), (7, 1))))
        self.assertIsNone(stretch_points(((1, 3), (0, 1)), ((2, 3), (0, 1))))
        self.assertEqual(stretch_points(((1, 2), (1, 2)), ((3, 2), (3, 2))), ((1, 1), (0, 0), 1))
        self.assertIsNone(stretch_points(((1, 2), (1, 2)), ((3, 2), (1, 1))))
        self.assertEqual(stretch_points(((-BIG ** 3, 1), (0, 1)), ((BIG ** 3, 1), (1, 1))),
                         ((-BIG ** 3, 0), (2 * BIG ** 3, 1), 2))
        p, q = 10 ** 100 + 1, 10 ** 100
        half = Fraction(1, 2)
        ends = (fine((-half * p, -half * q)), fine((p * (10 ** 90 + half), q * (10 ** 90 + half))))
        self.assertEqual(stretch_points(*ends), ((0, 0), (p, q), 10 ** 90 + 1))
        self.assertEqual(stretch_points(((-7, 2), (1, 2)), ((BIG + 1, 2), (1, 2))), None)

    def test_of_the_told_rim(self):
        for corners in fine_hulls(188, 100):
            shape = told(corners)
            if len(shape) == 2:
                row = stretch_points(*shape)
                self.assertEqual(grid_points_in(shape), 0 if row is None else row[2])
        self.assertEqual(stretch_points(*FINE_STRETCH), None)
        self.assertEqual(stretch_points(FINE_POINT[0], FINE_POINT[0]), None)

    def test_wrong(self):
        rows = rows_of(WRONG_FINE_POINTS, NoPoint)
        check_wrong(self, stretch_points, self.names, (((0, 1), (0, 1)), ((1, 2), (0, 1))), [rows, rows])


class Spread(unittest.TestCase):
    def test_against_all_grid_points(self):
        for corners in fine_hulls(189, 250):
            points = list(grid(corners))
            expected = (len(points), sum(x for x, _ in points), sum(y for _, y in points))
            self.assertEqual(check_calls(self, spread_of, ("fine",), (told(corners),)), expected, corners)

    def test_great_ones(self):
        shape = fine_of(((BIG - 3, BIG - 2), (BIG, BIG - 2), (BIG, BIG), (BIG - 3, BIG)))
        self.assertEqual(spread_of(shape), (12, 3 * (4 * BIG - 6), 4 * (3 * BIG - 3)))
        # A shape that is alike on both sides of its middle has it as the mean of its points.
        for corners in (KITE, WEDGE, cornered(9)):
            upper = [(BIG // 10 ** 6 * x, BIG // 10 ** 6 * y) for x, y in corners]
            both = hull(upper + [(1 - x, 1 - y) for x, y in upper])
            many, across, up = spread_of(fine_of(both))
            self.assertGreater(many, BIG)
            self.assertEqual((many, many), (2 * across, 2 * up))

    def test_by_rows(self):
        for corners in fine_hulls(190, 20):
            shape = told([(60 * x, 60 * y) for x, y in corners])
            total = [0, 0, 0]
            for y in range(-400, 401):
                row = row_of(shape, y)
                if row is not None:
                    many = row[1] - row[0] + 1
                    total = [total[0] + many, total[1] + many * (row[0] + row[1]) // 2, total[2] + many * y]
            self.assertEqual(spread_of(shape), tuple(total))


class ToldShapes(unittest.TestCase):
    """Counts of what other functions tell: common parts and fit sets."""

    def test_common_parts_and_fits(self):
        some = 0
        for shapes in zip(random_shapes(191, 40, 6), random_shapes(192, 40, 6)):
            both = common_part(shapes)
            inside = set(grid(shapes[0])) & set(grid(shapes[1]))
            self.assertEqual(grid_points_in(both), len(inside))
            fits = fit_set(POINT, shapes[0])
            self.assertEqual(grid_points_in(fits), points_in(shapes[0]))
            fits = fit_set(SQUARE, shapes[1])
            expected = [t for t in grid(shapes[1]) if all(
                place(shapes[1], (t[0] + x, t[1] + y)) != "out" for x, y in SQUARE)]
            self.assertEqual(grid_points_in(fits), len(expected))
            some += len(expected) > 0
        self.assertGreater(some, 5)
        self.assertEqual(grid_points_in(fit_set(SQUARE, scaled(WEDGE, BIG // 5))), grid_points_in(
            fit_set(((0, 0), (1, 0), (1, 1), (0, 1)), scaled(WEDGE, BIG // 5, (3, 4)))))


class Speed(unittest.TestCase):
    def test_sixty_corners(self):
        begin = time.process_time()
        corners = [(Fraction(x * 10 ** 58, 7) + Fraction(1, 10 ** 30 + 1), Fraction(y * 10 ** 58, 9))
                   for x, y in cornered(60)]
        shape = told(corners)
        many = grid_points_in(shape)
        self.assertEqual(points_in_rows(shape, 0, 10 ** 60) + points_in_rows(shape, 10 ** 60 + 1, 10 ** 70), many)
        self.assertEqual(rank_of(shape, (-BIG, 10 ** 60)), points_in_rows(shape, 0, 10 ** 60 - 1))
        self.assertEqual(spread_of(shape)[0], many)
        p = nth_point(shape, many // 2)
        self.assertNotEqual(place(corners, fractions(fine(p))), "out")
        self.assertLess(time.process_time() - begin, 10)

    def test_two_hundred_digits(self):
        rng = random.Random(193)
        begin = time.process_time()
        top = 10 ** 199
        for bottom in (1, top):
            corners = hull([(Fraction(rng.randint(-top * 9, top * 9), rng.randint(1, bottom)),
                             Fraction(rng.randint(-top * 9, top * 9), rng.randint(1, bottom))) for _ in range(4)])
            shape = told(corners)
            many = grid_points_in(shape)
            self.assertEqual(grid_points_within(shape) + grid_points_on_rim(shape), many)
            self.assertEqual(spread_of(shape)[0], many)
            if many > 0:
                p = nth_point(shape, many // 3)
                self.assertNotEqual(place(corners, p), "out")
        self.assertLess(time.process_time() - begin, 10)


if __name__ == "__main__":
    unittest.main()
