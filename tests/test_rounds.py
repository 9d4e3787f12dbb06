"""Round shapes, walls and fine shapes ([2])."""

import math
import random
import unittest
from fractions import Fraction

from gridshapes.errors import NoFine, NoPoint, NoShape, NoVector
from gridshapes.rounds import (
    fine_borders, fine_of, fine_place, hull_of, is_fine_shape, is_round, moved, place_in, reach, shape_by,
    sides_of, walls_of)
from tests.reckon import (
    BIG, FINE_POINT, FINE_STRETCH, FINE_TRIANGLE, FLAT, FULL_SHAPES, GREAT, KITE, LEVEL, POINT, SHAPES, SPOT, SQUARE,
    STRETCH, UPRIGHT, WEDGE, cornered, cross, dot, fine, fraction, fractions, hull, less, pair, place, plus,
    random_shapes, scaled)
from tests.wrong import (
    PENTAGRAM, WRONG_FINES, WRONG_POINTS, WRONG_SHAPES, WRONG_SHIFTS, WRONG_VECTORS, check_calls, check_wrong,
    row_of_things, rows_of)


def second_walls(corners):
    """The walls of a row of corners of Fractions, by all dots."""
    if len(corners) == 1:
        directions = [(1, 0), (0, 1), (-1, 0), (0, -1)]
    else:
        sides = [less(b, a) for a, b in zip(corners, corners[1:] + corners[:1])]
        directions = [(y, -x) for x, y in sides]
        if len(corners) == 2:
            x, y = sides[0]
            directions = [(y, -x), (-y, x), (x, y), (-x, -y)]
    walls = []
    for x, y in directions:
        many = math.lcm(Fraction(x).denominator, Fraction(y).denominator)
        x, y = int(x * many), int(y * many)
        u = (x // math.gcd(x, y), y // math.gcd(x, y))
        walls.append((u, pair(max(dot(u, corner) for corner in corners))))
    return tuple(walls)


def trial_points(corners, rng):
    """Points in, on the rim of, and out of a shape."""
    points = list(corners)
    for a in corners:
        for b in corners:
            points.append(((a[0] + 2 * b[0]) / 3, (a[1] + 2 * b[1]) / 3))
            points.append((2 * a[0] - b[0], 2 * a[1] - b[1]))
    for _ in range(10):
        points.append((Fraction(rng.randint(-20, 20), rng.randint(1, 3)), Fraction(rng.randint(-20, 20), 2)))
    return points


class IsRound(unittest.TestCase):
    def test_right_ones(self):
        for shape in SHAPES + (GREAT, ((BIG, BIG),), ((-BIG, -BIG), (BIG, BIG)), cornered(59), cornered(60),
                               ((0, 0), (-3, 1)), ((0, 0), (1, 0)), ((5, 5), (6, 5), (5, 6))):
            self.assertIs(is_round(shape), True, shape)

    def test_wrong_ones(self):
        for value in WRONG_SHAPES:
            self.assertIs(is_round(value), False, value)

    def test_only_the_told_form(self):
        for shape in SHAPES + (cornered(60), cornered(7)):
            for k in range(1, len(shape)):
                self.assertFalse(is_round(shape[k:] + shape[:k]))
            if len(shape) > 2:
                self.assertFalse(is_round(shape[:1] + shape[:0:-1]))
            self.assertFalse(is_round(shape + shape))

    def test_against_the_hull(self):
        rng = random.Random(2)
        many = 0
        for _ in range(3000):
            points = tuple((rng.randint(-2, 2), rng.randint(-2, 2)) for _ in range(rng.randint(1, 5)))
            right = len(set(points)) == len(points) and hull(points) == points
            self.assertIs(is_round(points), right, points)
            many += right
        self.assertGreater(many, 200)


class IsFineShape(unittest.TestCase):
    def test_right_ones(self):
        for value in (None, FINE_TRIANGLE, FINE_STRETCH, FINE_POINT, fine_of(cornered(60)),
                      (((BIG ** 3, 7), (1, BIG ** 3)),)):
            self.assertIs(is_fine_shape(value), True, value)
        for shape in SHAPES:
            self.assertIs(is_fine_shape(tuple(fine((Fraction(x, 7), Fraction(y, 3))) for x, y in shape)), True)

    def test_wrong_ones(self):
        for value in WRONG_FINES:
            self.assertIs(is_fine_shape(value), False, value)

    def test_against_the_hull(self):
        rng = random.Random(3)
        for _ in range(1500):
            points = tuple((Fraction(rng.randint(-2, 2), 2), Fraction(rng.randint(-3, 3), 3))
                           for _ in range(rng.randint(1, 5)))
            right = len(set(points)) == len(points) and hull(points) == points
            self.assertIs(is_fine_shape(tuple(fine(p) for p in points)), right, points)


class Hull(unittest.TestCase):
    def test_example(self):
        points = [(0, 3), (2, 1), (4, 0), (0, 0)]
        self.assertEqual(check_calls(self, hull_of, ("points",), (points,)), ((0, 0), (4, 0), (0, 3)))
        self.assertEqual(hull_of(tuple(points)), WEDGE)

    def test_edges(self):
        self.assertEqual(hull_of([(2, 3)]), ((2, 3),))
        self.assertEqual(hull_of([(2, 3)] * 12), ((2, 3),))
        self.assertEqual(hull_of([(2, 3), (2, 3), (1, 3), (2, 3)]), ((1, 3), (2, 3)))
        self.assertEqual(hull_of([(3, 3), (1, 1), (2, 2), (0, 0), (5, 5)]), ((0, 0), (5, 5)))
        self.assertEqual(hull_of([(-3, 3), (-1, 1), (0, 0), (-5, 5)]), ((0, 0), (-5, 5)))
        self.assertEqual(hull_of([(0, 0), (2, 0), (1, 0), (2, 2), (2, 1), (0, 2), (1, 2), (0, 1), (1, 1)]),
                         ((0, 0), (2, 0), (2, 2), (0, 2)))
        self.assertEqual(hull_of([(BIG, BIG), (-BIG, BIG), (0, 0), (BIG, -BIG), (-BIG, -BIG)]), GREAT)

    def test_against_all_turns(self):
        rng = random.Random(4)
        for size in (1, 2, 5, BIG):
            for _ in range(150):
                points = [(rng.randint(-size, size), rng.randint(-size, size)) for _ in range(rng.randint(1, 12))]
                told = hull_of(points)
                self.assertEqual(told, hull(points))
                self.assertTrue(is_round(told))
                self.assertEqual(told[0], min(points, key=lambda p: (p[1], p[0])))
                if len(told) > 2:
                    for a, b in zip(told, told[1:] + told[:1]):
                        self.assertTrue(all(cross(less(b, a), less(p, a)) >= 0 for p in points))

    def test_wrong(self):
        rows = []
        for value, error, told in row_of_things((1, 0), WRONG_POINTS, NoPoint, 12):
            rows.append((value, error, None if told is None else value[told]))
        check_wrong(self, hull_of, ("points",), ([(1, 0)],), [rows])


class Sides(unittest.TestCase):
    def test_sides(self):
        for shape in SHAPES + (GREAT, cornered(60)):
            told = check_calls(self, sides_of, ("shape",), (shape,))
            self.assertIsInstance(told, tuple)
            if len(shape) == 1:
                self.assertEqual(told, ())
            else:
                self.assertEqual(told, tuple(less(b, a) for a, b in zip(shape, shape[1:] + shape[:1])))
        self.assertEqual(sides_of(WEDGE), ((4, 0), (-4, 3), (0, -3)))
        self.assertEqual(sides_of(STRETCH), ((4, 2), (-4, -2)))

    def test_shape_by(self):
        for shape in SHAPES + (cornered(60), cornered(59)):
            for first in ((0, 0), (-7, 9), (BIG, -BIG)):
                told = check_calls(self, shape_by, ("point", "sides"), (first, sides_of(shape)))
                self.assertEqual(told, tuple(plus(less(p, shape[0]), first) for p in shape))
                self.assertEqual(shape_by(first, list(sides_of(shape))), told)
        self.assertEqual(shape_by((1, 2), []), ((1, 2),))
        self.assertEqual(shape_by((1, 2), ()), ((1, 2),))

    def test_told_points_may_be_greater(self):
        most = 10 * BIG
        self.assertEqual(shape_by((BIG, BIG), ((most, most), (-most, -most))), ((BIG, BIG), (11 * BIG, 11 * BIG)))

    def test_wrong(self):
        check_wrong(self, sides_of, ("shape",), (SQUARE,), [rows_of(WRONG_SHAPES, NoShape)])
        most = 10 * BIG
        sides = (
            None, True, 5, "", b"", {}, [None], [()], ((0, 0),), ((1, 0),), ((1, 0), (1, 0)), ((-1, 0), (1, 0)),
            ((0, -1), (0, 1)), ((1, 0), (-2, 0)), ((1, 0), (2, 0), (-3, 0)), ((1, 0), (-1, 1)), ((1, 0), (0, 1)),
            ((1, 0), (0, -1), (-1, 1)), ((4, 0), (0, -3), (-4, 3)), ((-4, 3), (0, -3), (4, 0)),
            ((4, 0), (0, 0), (-4, 3), (0, -3)), ((2, 0), (2, 0), (-4, 3), (0, -3)), [(4, 0), [-4, 3], (0, -3)],
            ((4, 0), (-4, 3), (0, True)), ((True, 0), (-1, 0)), ((most + 1, 0), (-most - 1, 0)),
            tuple(less(b, a) for a, b in zip(PENTAGRAM, PENTAGRAM[1:] + PENTAGRAM[:1])),
            sides_of_any(cornered(61)), sides_of_any(cornered(62)), list(sides_of_any(cornered(62))))
        check_wrong(self, shape_by, ("point", "sides"), ((0, 0), ()), [
            rows_of(WRONG_POINTS, NoPoint), rows_of(sides, NoVector)])

    def test_moved(self):
        for shape in SHAPES + (GREAT,):
            for shift in ((0, 0), (3, -4), (10 * BIG, -10 * BIG)):
                told = check_calls(self, moved, ("shape", "shift"), (shape, shift))
                self.assertEqual(told, tuple(plus(p, shift) for p in shape))
        check_wrong(self, moved, ("shape", "shift"), (SQUARE, (0, 0)), [
            rows_of(WRONG_SHAPES, NoShape), rows_of(WRONG_VECTORS, NoVector)])


def sides_of_any(corners):
    return tuple(less(b, a) for a, b in zip(corners, corners[1:] + corners[:1]))


class Walls(unittest.TestCase):
    def test_reach(self):
        for shape in SHAPES + (GREAT, cornered(60)):
            for u in ((0, 0), (1, 0), (0, -2), (3, -7), (-10 * BIG, 10 * BIG)):
                told = check_calls(self, reach, ("shape", "u"), (shape, u))
                self.assertEqual(told, max(dot(u, p) for p in shape))
        check_wrong(self, reach, ("shape", "u"), (SQUARE, (0, 0)), [
            rows_of(WRONG_SHAPES, NoShape), rows_of(WRONG_VECTORS, NoVector)])

    def test_examples(self):
        self.assertEqual(walls_of(WEDGE), (((0, -1), (0, 1)), ((3, 4), (12, 1)), ((-1, 0), (0, 1))))
        self.assertEqual(walls_of(SPOT), (((1, 0), (3, 1)), ((0, 1), (-2, 1)), ((-1, 0), (-3, 1)), ((0, -1), (2, 1))))
        self.assertEqual(walls_of(STRETCH), (
            ((1, -2), (0, 1)), ((-1, 2), (0, 1)), ((2, 1), (10, 1)), ((-2, -1), (0, 1))))

    def test_against_all_dots(self):
        for shape in SHAPES + (GREAT, cornered(60), cornered(3, BIG // 10000)) + tuple(random_shapes(5, 100)):
            told = check_calls(self, walls_of, ("shape",), (shape,))
            self.assertEqual(told, second_walls(shape))
        check_wrong(self, walls_of, ("shape",), (SQUARE,), [rows_of(WRONG_SHAPES, NoShape)])

    def test_fine_of(self):
        for shape in SHAPES + (GREAT,):
            told = check_calls(self, fine_of, ("shape",), (shape,))
            self.assertEqual(told, tuple(((x, 1), (y, 1)) for x, y in shape))
            self.assertTrue(is_fine_shape(told))
        check_wrong(self, fine_of, ("shape",), (SQUARE,), [rows_of(WRONG_SHAPES, NoShape)])

    def test_fine_borders(self):
        self.assertEqual(fine_borders(None), ())
        self.assertEqual(fine_borders(FINE_TRIANGLE), (((0, -1), (0, 1)), ((3, 4), (5, 1)), ((-1, 0), (0, 1))))
        self.assertEqual(fine_borders(FINE_POINT), (
            ((1, 0), (-7, 3)), ((0, 1), (1, 6)), ((-1, 0), (7, 3)), ((0, -1), (-1, 6))))
        self.assertEqual(fine_borders(FINE_STRETCH), (
            ((2, 3), (2, 1)), ((-2, -3), (-2, 1)), ((-3, 2), (7, 2)), ((3, -2), (5, 6))))
        rng = random.Random(6)
        for shape in random_shapes(7, 100):
            p, q = Fraction(1, rng.randint(1, 9)), Fraction(1, rng.randint(1, 9))
            corners = tuple((p * x, q * y) for x, y in shape)
            told = check_calls(self, fine_borders, ("fine",), (tuple(fine(c) for c in corners),))
            self.assertEqual(told, second_walls(corners))
        for shape in SHAPES:
            self.assertEqual(fine_borders(fine_of(shape)), walls_of(shape))
        check_wrong(self, fine_borders, ("fine",), (None,), [rows_of(WRONG_FINES, NoFine)])


class Places(unittest.TestCase):
    def test_ordinary_ones(self):
        self.assertEqual(place_in(WEDGE, (1, 1)), "within")
        self.assertEqual(place_in(WEDGE, ((1, 1), (1, 1))), "within")
        self.assertEqual(place_in(WEDGE, (0, 0)), "rim")
        self.assertEqual(place_in(WEDGE, (2, 0)), "rim")
        self.assertEqual(place_in(WEDGE, ((2, 1), (3, 2))), "rim")
        self.assertEqual(place_in(WEDGE, ((2, 1), (151, 100))), "out")
        self.assertEqual(place_in(WEDGE, (5, 0)), "out")
        for shape, p in ((POINT, (0, 0)), (STRETCH, (2, 1)), (LEVEL, (0, 1)), (UPRIGHT, ((1, 1), (7, 2)))):
            self.assertEqual(place_in(shape, p), "rim")
        for shape, p in ((POINT, (0, 1)), (POINT, ((1, 1000), (0, 1))), (STRETCH, (6, 3)), (STRETCH, (2, 2))):
            self.assertEqual(place_in(shape, p), "out")

    def test_at_the_bounds(self):
        self.assertEqual(place_in(GREAT, (BIG, -BIG)), "rim")
        self.assertEqual(place_in(GREAT, (BIG - 1, 1 - BIG)), "within")
        self.assertEqual(place_in(GREAT, ((BIG * BIG + 1, BIG), (0, 1))), "out")
        self.assertEqual(place_in(GREAT, ((BIG * BIG - 1, BIG), (0, 1))), "within")

    def test_against_the_turns(self):
        rng = random.Random(8)
        for shape in SHAPES + (cornered(9),) + tuple(random_shapes(9, 60)):
            for p in trial_points([fractions(c) for c in shape], rng):
                told = check_calls(self, place_in, ("shape", "p"), (shape, fine(p)))
                self.assertEqual(told, place(shape, p))
                if p[0].denominator == p[1].denominator == 1:
                    self.assertEqual(place_in(shape, (int(p[0]), int(p[1]))), told)
                walls = [dot(u, p) - fraction(c) for u, c in walls_of(shape)]
                self.assertEqual(told == "out", max(walls) > 0)
                self.assertEqual(told == "within", len(shape) > 2 and max(walls) < 0)

    def test_of_fine_shapes(self):
        self.assertEqual(fine_place(None, (0, 0)), "out")
        self.assertEqual(fine_place(None, ((1, 2), (0, 1))), "out")
        self.assertEqual(fine_place(FINE_STRETCH, ((0, 1), (2, 3))), "rim")
        self.assertEqual(fine_place(FINE_STRETCH, ((-1, 1), (4, 3))), "out")
        self.assertEqual(fine_place(FINE_POINT, ((-7, 3), (1, 6))), "rim")
        self.assertEqual(fine_place(FINE_POINT, (-2, 0)), "out")
        rng = random.Random(10)
        for shape in FULL_SHAPES + (STRETCH, SPOT) + tuple(random_shapes(11, 40)):
            corners = tuple((Fraction(x, 3), Fraction(y, 2)) for x, y in shape)
            told_shape = tuple(fine(c) for c in corners)
            for p in trial_points(corners, rng):
                told = check_calls(self, fine_place, ("fine", "p"), (told_shape, fine(p)))
                self.assertEqual(told, place(corners, p))
                if p[0].denominator == p[1].denominator == 1:
                    self.assertEqual(fine_place(told_shape, (int(p[0]), int(p[1]))), told)

    def test_wrong(self):
        points = rows_of(WRONG_SHIFTS, NoPoint)
        check_wrong(self, place_in, ("shape", "p"), (SQUARE, (0, 0)), [rows_of(WRONG_SHAPES, NoShape), points])
        check_wrong(self, fine_place, ("fine", "p"), (FINE_TRIANGLE, (0, 0)), [rows_of(WRONG_FINES, NoFine), points])
        check_wrong(self, fine_place, ("fine", "p"), (None, (0, 0)), [rows_of(WRONG_FINES, NoFine), points])

    def test_shapes_of_sixty_digits(self):
        shape = scaled(FLAT, BIG // 10, (7, -3))
        self.assertEqual(place_in(shape, shape[1]), "rim")
        self.assertEqual(place_in(shape, plus(shape[1], (1, 0))), "out")
        middle = fine((Fraction(shape[0][0] + shape[2][0], 2), Fraction(shape[0][1] + shape[2][1], 2)))
        self.assertEqual(place_in(shape, middle), "rim")
        self.assertEqual(place_in(scaled(KITE, BIG // 10), (0, 0)), "within")


if __name__ == "__main__":
    unittest.main()
