"""What legs sweep and meet, and the papers of it ([12], [0.2] (h))."""

import itertools
import random
import time
import unittest
from fractions import Fraction

from gridshapes.areas import twice_area
from gridshapes.errors import NoMove, NoPoint, NoShape, NoVector, TooMany
from gridshapes.rounds import is_round
from gridshapes.sweeps import (
    first_met, fresh_points, met_moments, shows_sweep, sweep_paper, swept_by, swept_points, swept_shapes, swept_twice)
from tests.reckon import (
    BIG, GREAT, KITE, LEVEL, POINT, SHAPES, SPOT, SQUARE, STRETCH, WEDGE, common, cornered, cross, dot, fine, fraction,
    fractions, grid, hull, less, lines_of, pair, place, random_shape, shifted)
from tests.test_moving import at, second_times
from tests.wrong import (
    ODD_THINGS, WRONG_POINTS, WRONG_SHAPES, WRONG_VECTORS, bent, check_calls, check_wrong, row_of_things, rows_of)

SWEEP = ("shape", "shift", "legs")
MET = SWEEP + ("other",)
ONE, NONE = (1, 1), (0, 1)
SHAPE_ROWS = rows_of(WRONG_SHAPES, NoShape)
POINT_ROWS = rows_of(WRONG_POINTS, NoPoint)
LEG_ROWS = row_of_things((1, 0), WRONG_VECTORS, NoMove, 5)
SWEEP_ROWS = [SHAPE_ROWS, POINT_ROWS, LEG_ROWS]
ROUND_TRIP = [(3, 0), (0, 3), (-3, -3)]


def sweeps(seed, many, size=3):
    """A shape, a shift, one to five legs, some of them (0, 0) or gone back, and another shape."""
    rng = random.Random(seed)
    for _ in range(many):
        shape = rng.choice(SHAPES) if rng.randint(0, 1) else random_shape(rng, size)
        other = rng.choice(SHAPES) if rng.randint(0, 1) else random_shape(rng, size)
        shift = (rng.randint(-7, 7), rng.randint(-7, 7))
        legs = []
        for _ in range(rng.randint(1, 5)):
            kind = rng.randint(0, 7)
            leg = (rng.randint(-6, 6), rng.randint(-6, 6))
            if kind == 0:
                leg = (0, 0)
            elif kind == 1 and legs:
                leg = (-legs[-1][0], -legs[-1][1])
            legs.append(leg)
        yield shape, shift, legs if rng.randint(0, 1) else tuple(legs), other


def starts(shift, legs):
    """The shift at the begin of each leg."""
    return [(shift[0] + sum(x for x, _ in legs[:k]), shift[1] + sum(y for _, y in legs[:k])) for k in range(len(legs))]


def second_swept(shape, start, leg):
    begin = shifted(shape, start)
    return hull(begin + shifted(begin, leg))


def all_swept(shape, shift, legs):
    return [second_swept(shape, start, leg) for start, leg in zip(starts(shift, legs), legs)]


def second_fresh(shape, shift, legs):
    """By going through all points of each leg."""
    seen, numbers = set(), []
    for swept in all_swept(shape, shift, legs):
        here = set(grid(swept)) - seen
        numbers.append(len(here))
        seen |= here
    return numbers


def height(corners, x):
    """The least and the greatest y of a full shape at x, within its breadth; None outside of it."""
    levels = []
    for a, b in zip(corners, corners[1:] + corners[:1]):
        if min(a[0], b[0]) < x < max(a[0], b[0]):
            levels.append(a[1] + (x - a[0]) * Fraction(b[1] - a[1], b[0] - a[0]))
    return (min(levels), max(levels)) if levels else None


def second_twice(shapes):
    """Twice the area of all together: by uprights through all corners and crossings, and the heights between them."""
    shapes = [shape for shape in shapes if len(shape) > 2]
    lines = [line for shape in shapes for line in lines_of(shape)]
    across = {Fraction(x) for shape in shapes for x, _ in shape}
    for (a, u), (b, v) in itertools.combinations(lines, 2):
        if cross(u, v) != 0:
            across.add(a[0] + Fraction(cross(less(b, a), v), cross(u, v)) * u[0])
    across = sorted(across)
    total = Fraction(0)
    for left, right in zip(across, across[1:]):
        spans = sorted(span for span in (height(shape, (left + right) / 2) for shape in shapes) if span)
        end = None
        for low, high in spans:
            if end is None or high > end:
                total += 2 * (right - left) * (high - (low if end is None else max(low, end)))
                end = high
    return total


class Swept(unittest.TestCase):
    def test_example_of_a_round_trip(self):
        self.assertEqual(swept_shapes(SQUARE, (0, 0), ROUND_TRIP), [
            ((0, 0), (4, 0), (4, 1), (0, 1)), ((3, 0), (4, 0), (4, 4), (3, 4)),
            ((0, 0), (1, 0), (4, 3), (4, 4), (3, 4), (0, 1))])
        self.assertEqual(swept_points(SQUARE, (0, 0), ROUND_TRIP), 19)
        self.assertEqual(fresh_points(SQUARE, (0, 0), ROUND_TRIP), [10, 6, 3])
        self.assertEqual(swept_twice(SQUARE, (0, 0), ROUND_TRIP), (22, 1))

    def test_swept_by(self):
        for shape, shift, legs, _ in sweeps(600, 120):
            told = check_calls(self, swept_by, ("shape", "shift", "v"), (shape, shift, legs[0]))
            self.assertEqual(told, second_swept(shape, shift, legs[0]))
            self.assertTrue(is_round(told))
        self.assertEqual(swept_by(WEDGE, (5, 6), (0, 0)), shifted(WEDGE, (5, 6)))
        self.assertEqual(swept_by(POINT, (5, 6), (0, 0)), ((5, 6),))
        self.assertEqual(swept_by(POINT, (5, 6), (-1, -2)), ((4, 4), (5, 6)))
        self.assertEqual(swept_by(STRETCH, (0, 0), (2, 1)), ((0, 0), (6, 3)))
        self.assertEqual(swept_by(STRETCH, (0, 0), (-2, -1)), ((-2, -1), (4, 2)))

    def test_swept_shapes(self):
        for shape, shift, legs, _ in sweeps(601, 120):
            told = check_calls(self, swept_shapes, SWEEP, (shape, shift, legs))
            self.assertIsInstance(told, list)
            self.assertEqual(told, all_swept(shape, shift, legs))
            self.assertEqual(told, [swept_by(shape, start, leg) for start, leg in zip(starts(shift, legs), legs)])

    def test_too_many(self):
        sixty = cornered(60)
        self.assertEqual(len(swept_by(sixty, (0, 0), (0, 0))), 60)
        self.assertEqual(len(swept_by(cornered(58), (0, 0), (0, 1))), 60)
        self.assertEqual(len(swept_by(sixty, (0, 0), (3, 1))), 60)
        for function, way in ((swept_by, (0, 1)), (swept_shapes, [(0, 0), (0, 1)])):
            with self.assertRaises(TooMany) as caught:
                function(sixty, (0, 0), way)
            self.assertEqual(caught.exception.most, 60)
        with self.assertRaises(NoMove):
            swept_shapes(sixty, (0, 0), [(0, 1), None])
        # What only counts, or meets, has no such bound.
        legs = [(0, 1), (7, 10 ** 4)]
        self.assertEqual(swept_points(sixty, (0, 0), legs), sum(fresh_points(sixty, (0, 0), legs)))
        self.assertEqual(first_met(sixty, (0, 0), legs, sixty), (0, NONE))
        far = shifted(SQUARE, (0, -10))
        self.assertEqual(shows_sweep(sixty, (0, 0), legs, far, sweep_paper(sixty, (0, 0), legs, far)), "clear")
        self.assertEqual(swept_twice(sixty, (0, 0), [(0, 1)])[0] - twice_area(sixty), 2 * (sixty_width(sixty)))

    def test_wrong(self):
        good = (SQUARE, (0, 0), [(1, 0)])
        for function in (swept_shapes, swept_points, fresh_points, swept_twice):
            check_wrong(self, function, SWEEP, good, SWEEP_ROWS)
        check_wrong(self, swept_by, ("shape", "shift", "v"), (SQUARE, (0, 0), (1, 0)),
                    [SHAPE_ROWS, POINT_ROWS, rows_of(WRONG_VECTORS, NoVector)])


def sixty_width(shape):
    return max(x for x, _ in shape) - min(x for x, _ in shape)


class Counts(unittest.TestCase):
    def test_points_against_going_through_all(self):
        for shape, shift, legs, _ in sweeps(610, 150):
            numbers = second_fresh(shape, shift, legs)
            self.assertEqual(check_calls(self, fresh_points, SWEEP, (shape, shift, legs)), numbers,
                             (shape, shift, legs))
            self.assertEqual(check_calls(self, swept_points, SWEEP, (shape, shift, legs)), sum(numbers))

    def test_areas_against_uprights(self):
        for shape, shift, legs, _ in sweeps(611, 60):
            expected = second_twice(all_swept(shape, shift, legs))
            told = check_calls(self, swept_twice, SWEEP, (shape, shift, legs))
            self.assertEqual(told, pair(expected), (shape, shift, legs))

    def test_edges(self):
        self.assertEqual(fresh_points(SQUARE, (0, 0), [(0, 0)]), [4])
        self.assertEqual(fresh_points(SQUARE, (0, 0), [(0, 0)] * 5), [4, 0, 0, 0, 0])
        self.assertEqual(fresh_points(SQUARE, (0, 0), [(5, 0), (-5, 0), (5, 0), (-5, 0)]), [14, 0, 0, 0])
        self.assertEqual(swept_twice(SQUARE, (0, 0), [(5, 0), (-5, 0), (5, 0), (-5, 0)]), (12, 1))
        self.assertEqual(fresh_points(POINT, (0, 0), [(2, 4), (1, 0)]), [3, 1])
        self.assertEqual(swept_twice(POINT, (0, 0), [(2, 4), (1, 0)]), (0, 1))
        self.assertEqual(swept_points(POINT, (7, 7), [(0, 0)]), 1)
        self.assertEqual(swept_twice(STRETCH, (0, 0), [(2, 1), (0, 1)]), (8, 1))
        # The area that two legs have in common need not be a half of a whole number.
        self.assertEqual(swept_twice(LEVEL, (0, 0), [(1, 5), (-5, 0), (3, -4)]),
                         pair(second_twice(all_swept(LEVEL, (0, 0), [(1, 5), (-5, 0), (3, -4)]))))

    def test_sixty_digits(self):
        begun = time.perf_counter()
        legs = [(10 * BIG, 0), (0, 10 * BIG), (-10 * BIG, 0), (0, -10 * BIG), (10 * BIG, 10 * BIG)]
        side, whole = 2 * BIG + 1, 12 * BIG + 1
        ring = whole * whole - (8 * BIG - 1) ** 2
        fresh = fresh_points(GREAT, (0, 0), legs)
        self.assertEqual(fresh[:4], [whole * side, whole * side - side * side, whole * side - side * side,
                                     whole * side - 2 * side * side])
        self.assertEqual(sum(fresh[:4]), ring)
        self.assertEqual(swept_points(GREAT, (0, 0), legs[:4]), ring)
        self.assertEqual(swept_twice(GREAT, (0, 0), legs[:4]), (2 * ((12 * BIG) ** 2 - (8 * BIG) ** 2), 1))
        self.assertEqual(swept_points(GREAT, (0, 0), legs), sum(fresh))
        # The last leg has fresh points in the hole alone: those x, y with |x - y| at most 2 BIG.
        hole = 8 * BIG - 1
        corner = hole - 2 * BIG - 1
        self.assertEqual(fresh[4], hole * hole - corner * (corner + 1))
        self.assertLess(time.perf_counter() - begun, 5)


class Met(unittest.TestCase):
    def second_met(self, shape, shift, legs, other):
        return [second_times(shape, other, start, leg)[0] for start, leg in zip(starts(shift, legs), legs)]

    def test_moments(self):
        met = 0
        for args in sweeps(620, 150):
            expected = self.second_met(*args)
            told = check_calls(self, met_moments, MET, args)
            self.assertEqual(told, expected, args)
            self.assertIsInstance(told, list)
            first = next(((k, times[0]) for k, times in enumerate(expected) if times), None)
            self.assertEqual(check_calls(self, first_met, MET, args), first)
            met += first is not None
        self.assertTrue(40 < met < 140, met)

    def test_edges(self):
        self.assertEqual(met_moments(SQUARE, (0, 0), [(0, 0)], SQUARE), [(NONE, ONE)])
        self.assertEqual(met_moments(SQUARE, (5, 0), [(0, 0)], SQUARE), [None])
        # At one moment alone: a corner that only passes a corner.
        self.assertEqual(met_moments(SQUARE, (2, 0), [(-2, 2)], SQUARE), [((1, 2), (1, 2))])
        self.assertEqual(met_moments(SQUARE, (0, 2), [(0, -1), (0, 1)], SQUARE), [(ONE, ONE), (NONE, NONE)])
        self.assertEqual(met_moments(SQUARE, (3, 0), [(-1, 0), (-1, 0), (0, 0), (5, 0), (-5, 0)], SQUARE),
                         [None, (ONE, ONE), (NONE, ONE), (NONE, NONE), (ONE, ONE)])
        self.assertEqual(first_met(SQUARE, (3, 0), [(-1, 0), (-1, 0), (0, 0)], SQUARE), (1, ONE))
        self.assertIsNone(first_met(SQUARE, (3, 0), [(-1, 0), (0, 7)], SQUARE))
        self.assertEqual(met_moments(POINT, (-2, 1), [(6, 0)], SPOT), [None])
        self.assertEqual(met_moments(POINT, (0, -2), [(9, 0)], SPOT), [((1, 3), (1, 3))])
        self.assertEqual(met_moments(GREAT, (0, 0), [(10 * BIG, 0)], shifted(SQUARE, (BIG - 1, 0))),
                         [(NONE, (1, 5))])

    def test_wrong(self):
        good = (SQUARE, (0, 0), [(1, 0)], WEDGE)
        for function in (met_moments, first_met, sweep_paper):
            check_wrong(self, function, MET, good, SWEEP_ROWS + [SHAPE_ROWS])
        check_wrong(self, shows_sweep, MET + ("value",), good + (None,), SWEEP_ROWS + [SHAPE_ROWS])


class Papers(unittest.TestCase):
    def second_shown(self, args, value):
        """By the told moment and point, or by the greatest and least dots."""
        shape, shift, legs, other = args
        if value[0] == "met":
            _, k, m, p = value
            where = at(starts(shift, legs)[k], legs[k], fraction(m))
            q = fractions(p)
            return place(shape, less(q, where)) != "out" and place(other, q) != "out"
        swept = all_swept(shape, shift, legs)
        return len(value[1]) == len(legs) and all(
            u != (0, 0) and max(dot(u, p) for p in row) <= fraction(c) < min(dot(u, p) for p in other)
            for (u, c), row in zip(value[1], swept))

    def test_told_papers_are_right(self):
        words = {"met": 0, "clear": 0}
        for args in sweeps(630, 120):
            paper = check_calls(self, sweep_paper, MET, args)
            self.assertTrue(self.second_shown(args, paper), (args, paper))
            self.assertEqual(check_calls(self, shows_sweep, MET + ("value",), args + (paper,)), paper[0])
            first = first_met(*args)
            self.assertEqual(paper[0], "clear" if first is None else "met")
            if first is not None:
                self.assertEqual(paper[1:3], first)
            words[paper[0]] += 1
        self.assertGreater(min(words.values()), 20)

    def test_papers_of_any_writer(self):
        rng = random.Random(631)
        right = wrong = 0
        for args in sweeps(632, 70):
            shape, shift, legs, other = args
            times = met_moments(*args)
            for k, leg in enumerate(legs):
                start = starts(shift, legs)[k]
                for _ in range(6):
                    m = Fraction(rng.randint(0, 12), 12)
                    if times[k] is not None and rng.randint(0, 1):
                        low, high = fraction(times[k][0]), fraction(times[k][1])
                        m = low + (high - low) * Fraction(rng.randint(0, 3), 3)
                    moved = [(Fraction(x), Fraction(y)) for x, y in shifted(shape, at(start, leg, m))]
                    part = common([moved, other])
                    points = list(part) if part else [rng.choice(moved)]
                    points.append((rng.randint(-5, 5), rng.randint(-5, 5)))
                    for p in points:
                        value = ("met", k, pair(m), fine(p))
                        expected = self.second_shown(args, value)
                        self.assertEqual(shows_sweep(*args, value), "met" if expected else None, (args, value))
                        right += expected
                        wrong += not expected
        self.assertGreater(min(right, wrong), 200)

    def test_lines_of_any_writer(self):
        rng = random.Random(633)
        right = wrong = 0
        for args in sweeps(634, 150):
            shape, shift, legs, other = args
            if first_met(*args) is not None:
                continue
            lines = []
            for row in all_swept(shape, shift, legs):
                ways = [(x, y) for x in range(-7, 8) for y in range(-7, 8) if (x, y) != (0, 0) and
                        max(dot((x, y), p) for p in row) < min(dot((x, y), p) for p in other)]
                if not ways:
                    break
                u = rng.choice(ways)
                near, far = max(dot(u, p) for p in row), min(dot(u, p) for p in other)
                lines.append((u, pair(near + (far - near) * Fraction(rng.randint(-1, 6), 6))))
            if len(lines) < len(legs):
                continue
            value = ("clear", tuple(lines))
            expected = self.second_shown(args, value)
            self.assertEqual(shows_sweep(*args, value), "clear" if expected else None, (args, value))
            k, n = rng.randrange(len(lines)), 10 ** 80
            (x, y), (a, b) = lines[k]
            longer = tuple(lines[:k]) + (((n * x, n * y), pair(Fraction(n * a, b))),) + tuple(lines[k + 1:])
            self.assertEqual(shows_sweep(*args, ("clear", longer)), "clear" if expected else None)
            self.assertIsNone(shows_sweep(*args, ("clear", tuple(lines) + (lines[0],))))
            self.assertIsNone(shows_sweep(*args, ("clear", tuple(lines[1:]))))
            right += expected
            wrong += not expected
        self.assertGreater(min(right, wrong), 10)

    def test_kinds_of_values(self):
        met = (SQUARE, (0, 0), [(3, 0), (0, 3)], WEDGE)
        for paper in (("met", 0, NONE, ((1, 1), (1, 1))), sweep_paper(*met)):
            self.assertEqual(shows_sweep(*met, paper), "met")
            for value in bent(paper):
                self.assertIsNone(shows_sweep(*met, value), value)
        self.assertIsNone(shows_sweep(*met, ("met", True, NONE, ((3, 1), (0, 1)))))
        self.assertEqual(shows_sweep(*met, ("met", 1, NONE, ((3, 1), (0, 1)))), "met")
        self.assertIsNone(shows_sweep(*met, ("met", 2, NONE, ((3, 1), (0, 1)))))
        self.assertIsNone(shows_sweep(*met, ("met", -1, NONE, ((3, 1), (0, 1)))))
        self.assertIsNone(shows_sweep(*met, ("met", 0, (4, 3), ((4, 1), (0, 1)))))
        self.assertIsNone(shows_sweep(*met, ("met", 0, (-1, 3), ((0, 1), (0, 1)))))
        clear = (SQUARE, (9, 9), [(3, 0), (0, 3)], KITE)
        paper = sweep_paper(*clear)
        self.assertEqual(shows_sweep(*clear, paper), "clear")
        for value in bent(paper):
            self.assertIsNone(shows_sweep(*clear, value), value)
        self.assertIsNone(shows_sweep(*clear, ("clear", (((-1, 0), (-4, 1)), ((0, 0), (-1, 1))))))
        for value in ODD_THINGS + (("clear", None), ("clear", ((None, None),) * 2), ("met", None, None, None)):
            self.assertIsNone(shows_sweep(*clear, value), value)
            self.assertIsNone(shows_sweep(*met, value), value)


if __name__ == "__main__":
    unittest.main()
