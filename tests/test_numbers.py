"""Numbers, points and slopes ([0.1], [1])."""

import math
import random
import unittest
from fractions import Fraction

from gridshapes.errors import NoNumber, NoVector
from gridshapes.numbers import (
    bare_vector, comes_ahead, fraction_of, in_slopes, is_fine_point, is_fraction, is_point, same_slope)
from tests.reckon import BIG, angle_sorted
from tests.wrong import (
    ODD_THINGS, WRONG_DIRECTIONS, WRONG_NUMBERS, WRONG_PAIRS, WRONG_POINTS, check_calls, check_wrong,
    row_of_things, rows_of)

RISING = ((1, 0), (5, 1), (1, 1), (1, 2), (0, 1), (-1, 1), (-7, 1), (-1, 0), (-2, -1), (0, -1), (1, -5), (9, -1))


class Fractions(unittest.TestCase):
    def test_right_ones(self):
        for value in ((0, 1), (1, 1), (-1, 1), (3, 2), (-3, 2), (2, 3), (BIG ** 4, 7), (1, BIG ** 4), (-5, 1)):
            self.assertIs(is_fraction(value), True, value)

    def test_wrong_ones(self):
        for value in ODD_THINGS + (
                (0, 2), (0, -1), (2, 4), (1, 0), (0, 0), (1, -2), (-1, -2), (3, 3), (True, 1), (1, True), (False, 1),
                (1,), (1, 2, 3), [1, 2], (1.0, 2), ("1", 2), (1, None), ((1, 2), (1, 2)), Fraction(1, 2)):
            self.assertIs(is_fraction(value), False, value)

    def test_fraction_of(self):
        for top, bottom in ((1, 2), (2, 4), (0, 5), (0, -5), (3, -6), (-3, -6), (-3, 6), (7, 1), (7, -1), (12, 18),
                            (BIG, 10), (10, BIG), (-BIG ** 3, 6)):
            told = check_calls(self, fraction_of, ("top", "bottom"), (top, bottom))
            both = Fraction(top, bottom)
            self.assertEqual(told, (both.numerator, both.denominator))
            self.assertIs(is_fraction(told), True)
        self.assertEqual(fraction_of(0, -9), (0, 1))
        self.assertEqual(fraction_of(6, -4), (-3, 2))

    def test_fraction_of_wrong(self):
        check_wrong(self, fraction_of, ("top", "bottom"), (1, 2), [
            rows_of(WRONG_NUMBERS, NoNumber), rows_of(WRONG_NUMBERS + (0,), NoNumber)])


class Points(unittest.TestCase):
    def test_right_points(self):
        for value in ((0, 0), (1, -1), (BIG, -BIG), (-BIG, BIG)):
            self.assertIs(is_point(value), True, value)

    def test_wrong_points(self):
        for value in WRONG_POINTS:
            self.assertIs(is_point(value), False, value)

    def test_right_fine_points(self):
        for value in (((0, 1), (0, 1)), ((1, 2), (-3, 7)), ((BIG ** 4, 1), (1, BIG ** 4)), ((-5, 1), (5, 1))):
            self.assertIs(is_fine_point(value), True, value)

    def test_wrong_fine_points(self):
        for value in WRONG_PAIRS + (
                (0, 0), (1, (0, 1)), ((0, 1), 1), ((2, 4), (0, 1)), ((0, 1), (0, 2)), ((1, -1), (0, 1)),
                ((0, 1), (1, 0)), ((True, 1), (0, 1)), ((0, 1), (1, True)), [(0, 1), (0, 1)], ([0, 1], (0, 1)),
                ((0, 1), [0, 1]), ((0, 1), (0, 1), (0, 1)), ((0, 1),), (((0, 1), (0, 1)),)):
            self.assertIs(is_fine_point(value), False, value)


class Slopes(unittest.TestCase):
    def test_all_round(self):
        for i, one in enumerate(RISING):
            for k, other in enumerate(RISING):
                long = (3 * other[0], 3 * other[1])
                self.assertIs(check_calls(self, comes_ahead, ("one", "other"), (one, other)), i < k)
                self.assertIs(comes_ahead(one, long), i < k)
                self.assertIs(check_calls(self, same_slope, ("one", "other"), (one, other)), i == k)
                self.assertIs(same_slope(long, one), i == k)

    def test_one_direction_and_opposite_ones(self):
        self.assertFalse(comes_ahead((2, 4), (1, 2)))
        self.assertFalse(comes_ahead((1, 2), (2, 4)))
        self.assertTrue(same_slope((2, 4), (3, 6)))
        self.assertFalse(same_slope((2, 4), (-2, -4)))
        self.assertTrue(comes_ahead((2, 4), (-2, -4)))
        self.assertFalse(comes_ahead((-2, -4), (2, 4)))

    def test_at_the_bounds(self):
        most = 10 * BIG
        self.assertTrue(comes_ahead((most, most - 1), (most - 1, most)))
        self.assertTrue(comes_ahead((most, most - 1), (most, most)))
        self.assertFalse(same_slope((most, most - 1), (most, most)))
        self.assertTrue(same_slope((most, -most), (1, -1)))

    def test_bare(self):
        for vector, bare in (((4, 6), (2, 3)), ((-4, 6), (-2, 3)), ((0, -9), (0, -1)), ((7, 0), (1, 0)),
                             ((-5, -5), (-1, -1)), ((3, 2), (3, 2)), ((10 * BIG, -10 * BIG), (1, -1)),
                             ((10 * BIG, 15), (2 * BIG, 3))):
            told = check_calls(self, bare_vector, ("vector",), (vector,))
            common = math.gcd(*vector)
            self.assertEqual(told, (vector[0] // common, vector[1] // common))
            self.assertEqual(told, bare)

    def test_wrong(self):
        wrong = rows_of(WRONG_DIRECTIONS, NoVector)
        check_wrong(self, comes_ahead, ("one", "other"), ((1, 0), (0, 1)), [wrong, wrong])
        check_wrong(self, same_slope, ("one", "other"), ((1, 0), (0, 1)), [wrong, wrong])
        check_wrong(self, bare_vector, ("vector",), ((1, 0),), [wrong])


class InSlopes(unittest.TestCase):
    def test_small_rows(self):
        self.assertEqual(in_slopes([]), ())
        self.assertEqual(in_slopes(()), ())
        self.assertEqual(in_slopes([(0, -3)]), ((0, -3),))
        self.assertEqual(in_slopes(((0, 1), (1, 0))), ((1, 0), (0, 1)))
        self.assertEqual(in_slopes(RISING), RISING)
        self.assertEqual(in_slopes(list(reversed(RISING))), RISING)

    def test_one_slope_as_they_come(self):
        rows = [(2, 2), (0, -1), (1, 1), (-1, -1), (0, -3), (3, 3), (0, -2), (-3, -3), (1, 1)]
        self.assertEqual(check_calls(self, in_slopes, ("vectors",), (rows,)), (
            (2, 2), (1, 1), (3, 3), (1, 1), (-1, -1), (-3, -3), (0, -1), (0, -3), (0, -2)))

    def test_against_another_order(self):
        rng = random.Random(1)
        for many in (2, 3, 5, 17, 64, 199, 200):
            for size in (3, 50, 10 * BIG):
                rows = [(rng.randint(-size, size), rng.randint(-size, size)) for _ in range(many)]
                rows = [row if row != (0, 0) else (1, 0) for row in rows]
                self.assertEqual(list(in_slopes(rows)), angle_sorted(rows))
                self.assertEqual(list(in_slopes(tuple(rows))), angle_sorted(rows))

    def test_wrong(self):
        check_wrong(self, in_slopes, ("vectors",), ([(1, 0)],), [
            row_of_vectors()])

    def test_the_first_wrong_one_is_told(self):
        for rows in ([(1, 0), (0, 0), 5], ((1, 0), (0, 0), 5)):
            with self.assertRaises(NoVector) as caught:
                in_slopes(rows)
            self.assertEqual(caught.exception.told, (0, 0))


def row_of_vectors():
    """As row_of_things, but the wrong vector itself is told."""
    rows = []
    for value, error, told in row_of_things((1, 0), WRONG_DIRECTIONS, NoVector, 200, least=0):
        rows.append((value, error, None if told is None else value[told]))
    return rows


if __name__ == "__main__":
    unittest.main()
