"""Areas, grid points and multiples ([3], [0.2] (a))."""

import math
import time
import unittest
from fractions import Fraction

from gridshapes.areas import (
    centre_of, core_of, core_of_multiple, counting_triple, first_multiple, length_of, multiple_of,
    multiple_with, points_in, points_in_multiple, rim_number, rim_of, rim_point, twice_area)
from gridshapes.errors import NoCount, NoPoint, NoShape, NoVector
from tests.reckon import (
    BIG, FLAT, FULL_SHAPES, KITE, LEVEL, POINT, SHAPES, SIX, SPOT, SQUARE, STRETCH, UPRIGHT, WEDGE, cornered,
    cross, fine, grid, less, place, random_shapes, scaled)
from tests.wrong import (
    WRONG_DIRECTIONS, WRONG_NUMBERS, WRONG_POINTS, WRONG_SHAPES, assert_raises_told, check_calls, check_wrong,
    rows_of)

FOLD = 10 ** 30
BOX = ((-BIG, -BIG), (BIG, -BIG), (BIG, BIG), (-BIG, BIG))
CORNER = ((0, 0), (BIG, 0), (0, BIG))
SHAPE_ROWS = rows_of(WRONG_SHAPES, NoShape)
SMALL = SHAPES + (cornered(6),) + tuple(random_shapes(20, 60))
TRIALS = SMALL + (cornered(7), cornered(60))


def places_of(shape):
    told = list(grid(shape).values())
    return told.count("rim"), told.count("within")


class Counts(unittest.TestCase):
    def test_examples(self):
        self.assertEqual((twice_area(WEDGE), rim_of(WEDGE), core_of(WEDGE)), (12, 8, 3))
        self.assertEqual(counting_triple(WEDGE), (12, 8, 2))
        self.assertEqual(points_in(WEDGE), 11)

    def test_of_points_and_stretches(self):
        self.assertEqual([twice_area(shape) for shape in (POINT, SPOT, STRETCH, LEVEL, UPRIGHT)], [0] * 5)
        self.assertEqual([rim_of(shape) for shape in (POINT, SPOT, STRETCH, LEVEL, UPRIGHT)], [1, 1, 3, 4, 6])
        self.assertEqual([core_of(shape) for shape in (POINT, SPOT, STRETCH, LEVEL, UPRIGHT)], [0] * 5)
        self.assertEqual([points_in(shape) for shape in (POINT, SPOT, STRETCH, LEVEL, UPRIGHT)], [1, 1, 3, 4, 6])
        self.assertEqual(counting_triple(POINT), (0, 0, 2))
        self.assertEqual(counting_triple(SPOT), (0, 0, 2))
        self.assertEqual(counting_triple(STRETCH), (0, 4, 2))
        self.assertEqual(counting_triple(UPRIGHT), (0, 10, 2))

    def test_against_all_grid_points(self):
        for shape in SMALL:
            rim, core = places_of(shape)
            self.assertEqual(check_calls(self, rim_of, ("shape",), (shape,)), rim, shape)
            self.assertEqual(check_calls(self, core_of, ("shape",), (shape,)), core, shape)
            self.assertEqual(check_calls(self, points_in, ("shape",), (shape,)), rim + core)

    def test_twice_by_triangles(self):
        for shape in TRIALS:
            fan = sum(cross(less(b, shape[0]), less(c, shape[0])) for b, c in zip(shape[1:], shape[2:]))
            self.assertEqual(check_calls(self, twice_area, ("shape",), (shape,)), fan)

    def test_sixty_digits(self):
        self.assertEqual(twice_area(BOX), 8 * BIG * BIG)
        self.assertEqual(rim_of(BOX), 8 * BIG)
        self.assertEqual(core_of(BOX), (2 * BIG - 1) ** 2)
        self.assertEqual(points_in(BOX), (2 * BIG + 1) ** 2)
        self.assertEqual(points_in(CORNER), (BIG + 1) * (BIG + 2) // 2)
        self.assertEqual(core_of(CORNER), (BIG - 1) * (BIG - 2) // 2)
        self.assertEqual(rim_of(((-BIG, -BIG), (BIG, BIG))), 2 * BIG + 1)
        self.assertEqual(rim_of(((-BIG, -BIG), (BIG - 1, BIG))), 2)

    def test_length(self):
        for vector, length in (((4, 6), 2), ((-4, 6), 2), ((0, -9), 9), ((7, 0), 7), ((3, 2), 1),
                               ((10 * BIG, -10 * BIG), 10 * BIG), ((10 * BIG, 3), 1)):
            self.assertEqual(check_calls(self, length_of, ("vector",), (vector,)), length)
            self.assertEqual(length, math.gcd(*vector))
        check_wrong(self, length_of, ("vector",), ((1, 0),), [rows_of(WRONG_DIRECTIONS, NoVector)])

    def test_wrong(self):
        for function in (twice_area, rim_of, core_of, points_in, counting_triple, centre_of):
            check_wrong(self, function, ("shape",), (SQUARE,), [SHAPE_ROWS])


def walked_rim(shape):
    """The points on the rim, counterclockwise from the first corner, by going on from each to the next."""
    if len(shape) == 1:
        return list(shape)
    rows = []
    legs = zip(shape, shape[1:] + shape[:1]) if len(shape) > 2 else [shape]
    for a, b in legs:
        x, y = less(b, a)
        many = math.gcd(x, y)
        rows += [(a[0] + x // many * k, a[1] + y // many * k) for k in range(many)]
    return rows if len(shape) > 2 else rows + [shape[1]]


class Rims(unittest.TestCase):
    def test_numbers_and_points(self):
        for shape in TRIALS:
            rows = walked_rim(shape)
            self.assertEqual(len(rows), rim_of(shape))
            for number, point in list(enumerate(rows))[:200]:
                self.assertEqual(check_calls(self, rim_point, ("shape", "number"), (shape, number)), point)
                self.assertEqual(check_calls(self, rim_number, ("shape", "point"), (shape, point)), number)

    def test_a_stretch_from_its_first_corner(self):
        self.assertEqual([rim_point(STRETCH, k) for k in range(3)], [(0, 0), (2, 1), (4, 2)])
        self.assertEqual([rim_point(WEDGE, k) for k in range(8)], [
            (0, 0), (1, 0), (2, 0), (3, 0), (4, 0), (0, 3), (0, 2), (0, 1)])

    def test_points_that_are_not_on_the_rim(self):
        for shape in SHAPES + tuple(random_shapes(21, 30)):
            for x in range(-7, 8):
                for y in range(-7, 8):
                    told = rim_number(shape, (x, y))
                    if place(shape, (x, y)) == "rim":
                        self.assertEqual(rim_point(shape, told), (x, y))
                    else:
                        self.assertIsNone(told)

    def test_sixty_digits(self):
        self.assertEqual(rim_point(BOX, 8 * BIG - 1), (-BIG, 1 - BIG))
        self.assertEqual(rim_point(BOX, 5 * BIG), (0, BIG))
        self.assertEqual(rim_number(BOX, (0, BIG)), 5 * BIG)
        self.assertEqual(rim_number(BOX, (-BIG, 1 - BIG)), 8 * BIG - 1)
        self.assertIsNone(rim_number(BOX, (0, BIG - 1)))
        long = ((-BIG, -BIG), (BIG, BIG))
        self.assertEqual(rim_point(long, 2 * BIG), (BIG, BIG))
        self.assertEqual(rim_number(long, (BIG, BIG)), 2 * BIG)
        self.assertEqual(rim_number(long, (7, 7)), BIG + 7)

    def test_wrong(self):
        for shape in (SQUARE, STRETCH, POINT):
            rim = rim_of(shape)
            check_wrong(self, rim_point, ("shape", "number"), (shape, rim - 1), [
                SHAPE_ROWS, rows_of(WRONG_NUMBERS + (-1, rim, rim + 1, BIG), NoCount)])
            check_wrong(self, rim_number, ("shape", "point"), (shape, (0, 0)), [
                SHAPE_ROWS, rows_of(WRONG_POINTS, NoPoint)])


class Multiples(unittest.TestCase):
    def test_folds(self):
        for shape in TRIALS:
            for k in (0, 1, 2, 7, FOLD):
                told = check_calls(self, multiple_of, ("shape", "k"), (shape, k))
                self.assertEqual(told, ((0, 0),) if k == 0 else scaled(shape, k))
        self.assertEqual(multiple_of(BOX, FOLD), scaled(BOX, FOLD))

    def test_counts_against_all_grid_points(self):
        for shape in SHAPES + tuple(random_shapes(22, 25, size=3)):
            for k in range(5):
                rim, core = places_of(scaled(shape, k)) if k else (1, 0)
                self.assertEqual(check_calls(self, points_in_multiple, ("shape", "k"), (shape, k)), rim + core)
                self.assertEqual(check_calls(self, core_of_multiple, ("shape", "k"), (shape, k)), core)
                a, b, c = counting_triple(shape)
                self.assertEqual(a * k * k + b * k + c, 2 * (rim + core))

    def test_greatest_folds(self):
        self.assertEqual(points_in_multiple(SQUARE, FOLD), (FOLD + 1) ** 2)
        self.assertEqual(core_of_multiple(SQUARE, FOLD), (FOLD - 1) ** 2)
        self.assertEqual(points_in_multiple(STRETCH, FOLD), 2 * FOLD + 1)
        self.assertEqual(core_of_multiple(STRETCH, FOLD), 0)
        self.assertEqual(points_in_multiple(SPOT, FOLD), 1)
        self.assertEqual(core_of_multiple(SPOT, FOLD), 0)
        self.assertEqual(points_in_multiple(BOX, FOLD), (2 * BIG * FOLD + 1) ** 2)
        self.assertEqual(core_of_multiple(SQUARE, 0), 0)
        self.assertEqual(core_of_multiple(SQUARE, 1), 0)

    def test_first_multiple_by_going_up(self):
        for shape in SHAPES + tuple(random_shapes(23, 25, size=3)):
            counts = [points_in_multiple(shape, k) for k in range(40)]
            for many in list(range(1, 30)) + counts[:9]:
                found = [k for k in range(40) if counts[k] >= many]
                exact = [k for k in range(40) if counts[k] == many]
                told = check_calls(self, first_multiple, ("shape", "many"), (shape, many))
                self.assertEqual(told, found[0] if found else None, (shape, many))
                told = check_calls(self, multiple_with, ("shape", "many"), (shape, many))
                self.assertEqual(told, exact[0] if exact else None)

    def test_first_multiple_far_up(self):
        half = 10 ** 30
        self.assertEqual(first_multiple(SQUARE, BIG), half - 1)
        self.assertEqual(multiple_with(SQUARE, BIG), half - 1)
        self.assertEqual(first_multiple(SQUARE, BIG - 1), half - 1)
        self.assertIsNone(multiple_with(SQUARE, BIG - 1))
        self.assertEqual(first_multiple(SQUARE, (half - 1) ** 2), half - 2)
        self.assertEqual(first_multiple(SQUARE, (half - 1) ** 2 + 1), half - 1)
        self.assertEqual(first_multiple(((0, 0), (1, 0)), BIG), BIG - 1)
        self.assertEqual(multiple_with(((0, 0), (1, 0)), BIG), BIG - 1)
        self.assertEqual(first_multiple(STRETCH, BIG), BIG // 2)
        self.assertIsNone(multiple_with(STRETCH, BIG))
        self.assertEqual(multiple_with(STRETCH, BIG - 1), BIG // 2 - 1)
        self.assertEqual(first_multiple(POINT, 1), 0)
        self.assertEqual(multiple_with(POINT, 1), 0)
        self.assertIsNone(first_multiple(POINT, 2))
        self.assertIsNone(multiple_with(POINT, BIG))
        self.assertEqual(first_multiple(BOX, BIG), 1)
        self.assertEqual(first_multiple(BOX, 1), 0)
        for shape in FULL_SHAPES:
            for many in (BIG, BIG - 7, 3 * BIG // 7):
                k = first_multiple(shape, many)
                self.assertGreaterEqual(points_in_multiple(shape, k), many)
                self.assertLess(points_in_multiple(shape, k - 1), many)
                self.assertEqual(multiple_with(shape, points_in_multiple(shape, k - 1)), k - 1)

    def test_wrong(self):
        folds = rows_of(WRONG_NUMBERS + (-1, FOLD + 1, -FOLD), NoCount)
        counts = rows_of(WRONG_NUMBERS + (0, -1, BIG + 1), NoCount)
        for shape in (SQUARE, STRETCH, POINT):
            for function in (multiple_of, points_in_multiple, core_of_multiple):
                check_wrong(self, function, ("shape", "k"), (shape, FOLD), [SHAPE_ROWS, folds])
            for function in (first_multiple, multiple_with):
                check_wrong(self, function, ("shape", "many"), (shape, BIG), [SHAPE_ROWS, counts])
        assert_raises_told(self, NoShape, None, multiple_of, None, None)


class Centres(unittest.TestCase):
    def test_small_ones(self):
        self.assertEqual(centre_of(SPOT), ((3, 1), (-2, 1)))
        self.assertEqual(centre_of(STRETCH), ((2, 1), (1, 1)))
        self.assertEqual(centre_of(LEVEL), ((1, 2), (1, 1)))
        self.assertEqual(centre_of(SQUARE), ((1, 2), (1, 2)))
        self.assertEqual(centre_of(WEDGE), ((4, 3), (1, 1)))
        self.assertEqual(centre_of(SIX), ((3, 2), (3, 2)))

    def test_by_triangles(self):
        for shape in TRIALS:
            told = check_calls(self, centre_of, ("shape",), (shape,))
            if len(shape) < 3:
                self.assertEqual(told, fine((Fraction(shape[0][0] + shape[-1][0], 2),
                                             Fraction(shape[0][1] + shape[-1][1], 2))))
                continue
            area, x, y = 0, Fraction(0), Fraction(0)
            for b, c in zip(shape[1:], shape[2:]):
                part = cross(less(b, shape[0]), less(c, shape[0]))
                area += part
                x += Fraction(part * (shape[0][0] + b[0] + c[0]), 3)
                y += Fraction(part * (shape[0][1] + b[1] + c[1]), 3)
            self.assertEqual(told, fine((x / area, y / area)))

    def test_sixty_digits(self):
        self.assertEqual(centre_of(BOX), ((0, 1), (0, 1)))
        self.assertEqual(centre_of(CORNER), fine((Fraction(BIG, 3), Fraction(BIG, 3))))


class Speed(unittest.TestCase):
    def test_sixty_corners_of_sixty_digits(self):
        shape = cornered(60, BIG // 10 ** 4, (-BIG // 3, 7))
        begin = time.process_time()
        for _ in range(20):
            rim, core = rim_of(shape), core_of(shape)
            self.assertEqual(points_in(shape), rim + core)
            number = rim_number(shape, rim_point(shape, rim - 1))
            self.assertEqual(number, rim - 1)
            first_multiple(shape, BIG)
            centre_of(shape)
        self.assertLess(time.process_time() - begin, 10)

    def test_of_flat_and_kite(self):
        self.assertEqual(points_in(scaled(KITE, 10 ** 58)), points_in_multiple(scaled(KITE, 10 ** 28), FOLD))
        self.assertEqual(points_in(scaled(FLAT, 10 ** 58)), points_in_multiple(scaled(FLAT, 10 ** 28), FOLD))


if __name__ == "__main__":
    unittest.main()
