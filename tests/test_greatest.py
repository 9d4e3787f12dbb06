"""Folds, the greatest fit, its set and its papers ([8], [0.2] (e))."""

import itertools
import random
import time
import unittest
from fractions import Fraction

from gridshapes.errors import NoFraction, NoShape
from gridshapes.greatest import (
    accepts_greatest, fine_fold, greatest_fit, greatest_paper, greatest_set, least_multiple)
from gridshapes.rounds import is_fine_shape, walls_of
from tests.reckon import (
    BIG, GREAT, KITE, LEVEL, POINT, SHAPES, SIX, SPOT, SQUARE, STRETCH, UPRIGHT, WEDGE, common, cornered, cross, dot,
    fine, fraction, fractions, hull, pair, place, random_full, random_shape, scaled, shifted)
from tests.wrong import (
    ODD_THINGS, WRONG_FRACTIONS, WRONG_SHAPES, bent, check_calls, check_wrong, rows_of)

NAMES = ("shape", "other")
SHAPE_ROWS = rows_of(WRONG_SHAPES, NoShape)
GROWING_ROWS = rows_of(WRONG_SHAPES + (POINT, SPOT, ((BIG, -BIG),)), NoShape)
ORIGIN = ((0, 1), (0, 1))
PAIRS = ((0, (4, 7)), (1, (1, 7)), (2, (3, 7)))


def trials(seed, many):
    """A shape that is no point shape, and another one."""
    rng = random.Random(seed)
    for _ in range(many):
        shape = POINT
        while len(shape) == 1:
            shape = rng.choice(SHAPES) if rng.randint(0, 2) == 0 else random_shape(rng, 3, 5)
        other = rng.choice(SHAPES) if rng.randint(0, 2) == 0 else random_shape(rng, 5)
        if rng.randint(0, 1):
            other = random_full(rng, 6, 8)
        if rng.randint(0, 5) == 0:
            other = scaled(shape, rng.randint(1, 3), (rng.randint(-3, 3), rng.randint(-3, 3)))
        yield shape, other


def folded(shape, s):
    return [(s * x, s * y) for x, y in shape]


def second_set(shape, other, s):
    """What the other one, moved back by each corner of the s-fold, has in common: corners of Fractions, or None."""
    return common([shifted(other, (-x, -y)) for x, y in folded(shape, s)])


def fits_by(shape, other, s, t):
    return all(place(other, (x + t[0], y + t[1])) != "out" for x, y in folded(shape, s))


def rows_with_walls(shape, other):
    return [(u, max(dot(u, x) for x in shape), fraction(c)) for u, c in walls_of(other)]


def second_bound(rows, pairs):
    """The fold beyond which the pairs show that none fits, None if they do not show it of any."""
    total = [0, 0, 0, 0]
    for number, weight in pairs:
        (x, y), reach, c = rows[number]
        total = [a + weight * b for a, b in zip(total, (x, y, reach, c))]
    return total[3] if total[:3] == [0, 0, 1] else None


def second_weights(rows, lot):
    """The weights above 0 of these walls with which they bound a fold, None without any."""
    if len(lot) == 2:
        weights = (1, 1)
    else:
        u, v, w = [rows[k][0] for k in lot]
        weights = (cross(v, w), cross(w, u), cross(u, v))
        if max(weights) < 0:
            weights = tuple(-weight for weight in weights)
    reach = sum(weight * rows[k][1] for k, weight in zip(lot, weights))
    if min(weights) <= 0 or reach == 0:
        return None
    pairs = [(k, Fraction(weight) / reach) for k, weight in zip(lot, weights)]
    return pairs if second_bound(rows, pairs) is not None else None


def second_pairs(rows, s):
    """The told pairs, by going through all twos, then all threes."""
    for many in (2, 3):
        for lot in itertools.combinations(range(len(rows)), many):
            pairs = second_weights(rows, lot)
            if pairs is not None and second_bound(rows, pairs) == s:
                return tuple((k, pair(weight)) for k, weight in pairs)
    return None


class Folds(unittest.TestCase):
    names = ("shape", "s")

    def test_against_each_corner(self):
        for shape in SHAPES + (cornered(60), GREAT):
            for s in (Fraction(1), Fraction(2, 3), Fraction(7), Fraction(1, BIG ** 3), Fraction(BIG ** 3, 7)):
                told = check_calls(self, fine_fold, self.names, (shape, pair(s)))
                self.assertEqual(told, tuple(fine(p) for p in folded(shape, s)))
                self.assertIs(is_fine_shape(told), True)

    def test_edges(self):
        for shape in SHAPES + (cornered(60),):
            self.assertEqual(fine_fold(shape, (0, 1)), (ORIGIN,))
        self.assertEqual(fine_fold(SPOT, (1, 2)), (((3, 2), (-1, 1)),))

    def test_wrong(self):
        rows = rows_of(WRONG_FRACTIONS + ((-1, 2), (-1, 1)), NoFraction)
        check_wrong(self, fine_fold, self.names, (SQUARE, (1, 2)), [SHAPE_ROWS, rows])
        check_wrong(self, fine_fold, self.names, (POINT, (0, 1)), [SHAPE_ROWS, rows])


class GreatestFits(unittest.TestCase):
    def test_example(self):
        self.assertEqual(greatest_paper(SQUARE, WEDGE), ("greatest", (12, 7), ORIGIN, PAIRS))
        self.assertEqual(greatest_fit(SQUARE, WEDGE), (12, 7))
        self.assertEqual(least_multiple(SQUARE, WEDGE), (7, 12))
        self.assertEqual(greatest_set(SQUARE, WEDGE), (ORIGIN,))

    def test_no_greater_one_fits(self):
        zero = 0
        for args in trials(150, 90):
            told = check_calls(self, greatest_fit, NAMES, args)
            s = fraction(told)
            self.assertGreaterEqual(s, 0)
            part = second_set(*args, s)
            self.assertIsNotNone(part, args)
            for more in (Fraction(1, BIG), Fraction(1, 9), 1, BIG):
                self.assertIsNone(second_set(*args, s + more))
            told = check_calls(self, greatest_set, NAMES, args)
            self.assertEqual(told, tuple(fine(p) for p in part))
            self.assertIs(is_fine_shape(told), True)
            told = check_calls(self, least_multiple, NAMES, args)
            self.assertEqual(told, pair(1 / s) if s > 0 else None)
            zero += s == 0
        self.assertGreater(zero, 10)

    def test_edges(self):
        self.assertEqual(greatest_fit(SQUARE, SQUARE), (1, 1))
        self.assertEqual(greatest_fit(SQUARE, POINT), (0, 1))
        self.assertEqual(greatest_fit(UPRIGHT, SPOT), (0, 1))
        self.assertEqual(greatest_set(UPRIGHT, SPOT), (((3, 1), (-2, 1)),))
        self.assertIsNone(least_multiple(UPRIGHT, SPOT))
        self.assertEqual(greatest_fit(LEVEL, STRETCH), (0, 1))
        self.assertEqual(greatest_set(LEVEL, STRETCH), tuple(fine(p) for p in STRETCH))
        self.assertEqual(greatest_fit(WEDGE, STRETCH), (0, 1))
        self.assertEqual(greatest_set(WEDGE, STRETCH), tuple(fine(p) for p in STRETCH))
        self.assertEqual(greatest_fit(((1, 1), (3, 2)), STRETCH), (2, 1))
        self.assertEqual(greatest_set(((1, 1), (3, 2)), STRETCH), (((-2, 1), (-2, 1)),))
        self.assertEqual(greatest_fit(LEVEL, WEDGE), (4, 3))
        self.assertEqual(greatest_fit(SQUARE, ((0, 0), (9, 0), (9, 2), (0, 2))), (2, 1))
        self.assertEqual(greatest_set(SQUARE, ((0, 0), (9, 0), (9, 2), (0, 2))), (ORIGIN, ((7, 1), (0, 1))))
        self.assertEqual(greatest_fit(GREAT, GREAT), (1, 1))
        self.assertEqual(greatest_fit(GREAT, SQUARE), (1, 2 * BIG))
        self.assertEqual(least_multiple(GREAT, SQUARE), (2 * BIG, 1))
        self.assertEqual(greatest_fit(SQUARE, GREAT), (2 * BIG, 1))

    def test_wrong(self):
        for function in (greatest_fit, greatest_set, least_multiple, greatest_paper):
            check_wrong(self, function, NAMES, (SQUARE, WEDGE), [GROWING_ROWS, SHAPE_ROWS])
            self.assertIsNotNone(function(WEDGE, SQUARE))
        check_wrong(self, accepts_greatest, NAMES + ("value",), (SQUARE, WEDGE, None), [GROWING_ROWS, SHAPE_ROWS])


class GreatestPapers(unittest.TestCase):
    names = NAMES + ("value",)

    def test_told_ones(self):
        count = {2: 0, 3: 0}
        for args in trials(151, 200):
            paper = check_calls(self, greatest_paper, NAMES, args)
            word, s, t, pairs = paper
            self.assertEqual((word, s), ("greatest", greatest_fit(*args)))
            self.assertEqual(t, fine(second_set(*args, fraction(s))[0]))
            self.assertEqual(pairs, second_pairs(rows_with_walls(*args), fraction(s)), args)
            self.assertIs(check_calls(self, accepts_greatest, self.names, (*args, paper)), True)
            count[len(pairs)] += 1
        self.assertGreater(min(count.values()), 30)

    def test_told_ones_bent(self):
        for args in trials(152, 60):
            for value in bent(greatest_paper(*args)):
                self.assertIs(accepts_greatest(*args, value), False, (args, value))

    def test_papers_of_any_hand(self):
        rng = random.Random(153)
        count = {True: 0, False: 0}
        for args in trials(154, 150):
            rows = rows_with_walls(*args)
            told = greatest_fit(*args)
            part = second_set(*args, fraction(told))
            for _ in range(10):
                s = fraction(told) if rng.randint(0, 3) else Fraction(rng.randint(0, 5), rng.randint(1, 3))
                a, b = rng.choice(part), rng.choice(part)
                t = ((a[0] + b[0]) / 2, (a[1] + b[1]) / 2)
                if rng.randint(0, 4) == 0:
                    t = (t[0] + Fraction(rng.randint(-1, 1), 3), t[1])
                many = rng.choice((2, 3))
                pairs = None
                if len(rows) >= many:
                    pairs = second_weights(rows, sorted(rng.sample(range(len(rows)), many)))
                if pairs is None or rng.randint(0, 1):
                    pairs = [(k, fraction(weight)) for k, weight in greatest_paper(*args)[3]]
                if rng.randint(0, 4) == 0:
                    k = rng.randrange(len(pairs))
                    pairs[k] = (pairs[k][0], pairs[k][1] * rng.choice((2, Fraction(1, 2), -1)))
                right = fits_by(*args, s, t) and second_bound(rows, pairs) == s and min(w for _, w in pairs) > 0
                value = ("greatest", pair(s), fine(t), tuple((k, pair(weight)) for k, weight in pairs))
                self.assertIs(accepts_greatest(*args, value), right, (args, value))
                count[right] += 1
                if right:
                    self.assertEqual(pair(s), told)
        self.assertGreater(min(count.values()), 100)

    def test_small_ones(self):
        def judged(s, t, *pairs, shape=SQUARE, other=WEDGE):
            return accepts_greatest(shape, other, ("greatest", s, t, pairs))
        self.assertIs(judged((12, 7), ORIGIN, *PAIRS), True)
        self.assertIs(judged((1, 1), ORIGIN, *PAIRS), False)
        self.assertIs(judged((12, 7), ((1, 7), (0, 1)), *PAIRS), False)
        self.assertIs(judged((12, 7), ORIGIN, *PAIRS[::-1]), False)
        self.assertIs(judged((12, 7), ORIGIN, *PAIRS[:2]), False)
        self.assertIs(judged((12, 7), ORIGIN, *PAIRS, (3, (1, 7))), False)
        self.assertIs(judged((24, 7), ORIGIN, *[(k, (2 * a, b)) for k, (a, b) in PAIRS]), False)
        self.assertIs(judged((12, 7), ORIGIN, *[(k, a) for k, (a, _) in PAIRS]), False)
        self.assertIs(judged((12, 7), (0, 0), *PAIRS), False)
        wide = ((0, 0), (9, 0), (9, 2), (0, 2))
        self.assertIs(judged((2, 1), ((5, 3), (0, 1)), (0, (1, 1)), (2, (1, 1)), other=wide), True)
        self.assertIs(judged((2, 1), ((7, 1), (0, 1)), (0, (1, 1)), (2, (1, 1)), other=wide), True)
        self.assertIs(judged((2, 1), ((8, 1), (0, 1)), (0, (1, 1)), (2, (1, 1)), other=wide), False)
        self.assertIs(judged((9, 1), ORIGIN, (1, (1, 1)), (3, (1, 1)), other=wide), False)
        self.assertIs(judged((2, 1), ORIGIN, (2, (1, 1)), (0, (1, 1)), other=wide), False)
        self.assertIs(judged((2, 1), ORIGIN, (0, 1), (2, 1), other=wide), False)
        self.assertIs(judged((2, 1), ORIGIN, (False, (1, 1)), (2, (1, 1)), other=wide), False)
        self.assertIs(judged((0, 1), ORIGIN, (0, (1, 1)), (1, (1, 1)), (2, (-1, 1)), other=wide), False)
        self.assertIs(judged((-1, 1), ORIGIN, *PAIRS), False)
        self.assertIs(judged((2, 1), ORIGIN, (-2, (1, 1)), (0, (1, 1)), other=wide), False)
        # All sums are as they should be, but not all weights are above 0.
        self.assertIs(judged((2, 1), ORIGIN, (0, (1, 1)), (1, (0, 1)), (2, (1, 1)), other=wide), False)
        five = ((0, 0), (3, 0), (3, 2), (2, 3), (0, 3))
        self.assertIs(judged((1, 1), ORIGIN, (1, (1, 1)), (2, (-1, 1)), (3, (1, 1)), shape=five, other=five), False)
        self.assertIs(judged((1, 1), ORIGIN, (1, (1, 3)), (4, (1, 3)), shape=five, other=five), True)

    def test_any_value(self):
        for value in ODD_THINGS + (
                ("greatest",), ("greatest", (12, 7), ORIGIN), ("greatest", None, None, None), ("greatest", 2, 0, ()),
                ("greatest", (12, 7), ORIGIN, list(PAIRS)), ("greatest", (12, 7), ORIGIN, None), ({}, [], (), 1),
                ("fits", (12, 7), ORIGIN, PAIRS), ("greatest", (24, 14), ORIGIN, PAIRS),
                ("greatest", (12, 7), ORIGIN, PAIRS, None), ["greatest", (12, 7), ORIGIN, PAIRS],
                ("greatest", (12, 7), ORIGIN, ([0, (4, 7)], [1, (1, 7)], [2, (3, 7)])),
                ("greatest", (12, 7), ORIGIN, "abc"), ("greatest", (12, 7), ORIGIN, (None, None))):
            self.assertIs(accepts_greatest(SQUARE, WEDGE, value), False, value)

    def test_speed(self):
        begin = time.process_time()
        for shape, other in ((cornered(60, BIG // 10 ** 5), hull([(-y, x) for x, y in cornered(60, BIG // 10 ** 4)])),
                             (SIX, cornered(60)), (cornered(60), KITE)):
            paper = greatest_paper(shape, other)
            self.assertIs(accepts_greatest(shape, other, paper), True)
            self.assertEqual(fractions(paper[2]), fractions(greatest_set(shape, other)[0]))
        self.assertLess(time.process_time() - begin, 10)


if __name__ == "__main__":
    unittest.main()
