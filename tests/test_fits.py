"""Where a shape fits into another one, what it reaches there, and the papers of both ([8], [0.2] (e))."""

import itertools
import math
import random
import time
import unittest
from fractions import Fraction

from gridshapes.errors import NoFine, NoPlace, NoShape, NoVector, TooMany
from gridshapes.fits import (
    accepts_fit, accepts_reach, does_fit, farthest, fit_paper, fit_set, is_reached, reach_paper, reached_shape,
    rooms_of, touched_numbers)
from gridshapes.rounds import is_fine_shape, walls_of
from tests.reckon import (
    BIG, GREAT, KITE, LEVEL, POINT, SHAPES, SPOT, SQUARE, STRETCH, UPRIGHT, WEDGE, common, cornered, cross, dot, fine,
    fraction, fractions, hull, less, pair, place, plus, random_full, random_shape, scaled, shifted)
from tests.wrong import (
    ODD_THINGS, WRONG_DIRECTIONS, WRONG_FINE_POINTS, WRONG_SHAPES, bent, check_calls, check_wrong, rows_of)

NAMES = ("shape", "other")
SHAPE_ROWS = rows_of(WRONG_SHAPES, NoShape)
FINE_ROWS = rows_of(WRONG_FINE_POINTS, NoFine)
ORIGIN = ((0, 1), (0, 1))
SIXTY = cornered(60)
TURNED = hull([(-y, x) for x, y in SIXTY])


def trials(seed, many):
    """A shape, and another one in which it fits or does not."""
    rng = random.Random(seed)
    for _ in range(many):
        shape = rng.choice(SHAPES) if rng.randint(0, 2) == 0 else random_shape(rng, 2, 5)
        other = rng.choice(SHAPES) if rng.randint(0, 3) == 0 else random_shape(rng, rng.choice((3, 6, 9)))
        kind = rng.randint(0, 9)
        if kind == 0:
            other = scaled(shape, rng.randint(1, 3), (rng.randint(-3, 3), rng.randint(-3, 3)))
        elif kind < 4:
            other = random_full(rng, 8, 9)
        yield shape, other


def second_set(shape, other):
    """What the other one, moved back by each corner of the shape, has in common: corners of Fractions, or None."""
    return common([shifted(other, (-x, -y)) for x, y in shape])


def fits_by(shape, other, t):
    return all(place(other, plus(corner, t)) != "out" for corner in shape)


def some_fits(shape, other, rng):
    """Points of Fractions in the fit set, or near it, and others."""
    part = second_set(shape, other)
    rows = [(Fraction(rng.randint(-9, 9), 2), Fraction(rng.randint(-9, 9), 3))]
    if part is not None:
        a, b = rng.choice(part), rng.choice(part)
        middle = ((a[0] + 2 * b[0]) / 3, (a[1] + 2 * b[1]) / 3)
        rows += [a, middle, (middle[0] + Fraction(1, 7), middle[1]), (2 * a[0] - b[0], 2 * a[1] - b[1])]
    return rows


def second_bar(walls, pairs):
    """Whether numbered and weighted walls (u, room) bar all points."""
    total = [0, 0, 0]
    for number, weight in pairs:
        u, room = walls[number]
        total = [total[0] + weight * u[0], total[1] + weight * u[1], total[2] + weight * room]
    return total[:2] == [0, 0] and total[2] < 0


def second_pairs(walls):
    """The told pairs, by going through all twos, then all threes."""
    for i, j in itertools.combinations(range(len(walls)), 2):
        if plus(walls[i][0], walls[j][0]) == (0, 0) and second_bar(walls, ((i, 1), (j, 1))):
            return ((i, 1), (j, 1))
    for lot in itertools.combinations(range(len(walls)), 3):
        u, v, w = [walls[k][0] for k in lot]
        weights = (cross(v, w), cross(w, u), cross(u, v))
        if max(weights) < 0:
            weights = tuple(-k for k in weights)
        if min(weights) > 0 and second_bar(walls, tuple(zip(lot, weights))):
            divisor = math.gcd(*weights)
            return tuple((k, weight // divisor) for k, weight in zip(lot, weights))
    return None


def rooms_with_walls(shape, other):
    return [(u, fraction(c) - max(dot(u, x) for x in shape)) for u, c in walls_of(other)]


def walls_for(shape, other, p):
    return rooms_with_walls(shape, other) + [
        ((-u[0], -u[1]), fraction(c) - dot(u, p)) for u, c in walls_of(shape)]


class Rooms(unittest.TestCase):
    def test_small_ones(self):
        self.assertEqual(rooms_of(SQUARE, WEDGE), ((0, 1), (5, 1), (0, 1)))
        self.assertEqual(rooms_of(WEDGE, SQUARE), ((0, 1), (-3, 1), (-2, 1), (0, 1)))
        self.assertEqual(rooms_of(POINT, SPOT), ((3, 1), (-2, 1), (-3, 1), (2, 1)))
        self.assertEqual(rooms_of(SPOT, STRETCH), ((-7, 1), (7, 1), (6, 1), (4, 1)))

    def test_against_all_dots(self):
        for args in trials(120, 100):
            told = check_calls(self, rooms_of, NAMES, args)
            self.assertEqual(told, tuple(pair(room) for _, room in rooms_with_walls(*args)))

    def test_sixty_digits(self):
        self.assertEqual(rooms_of(GREAT, GREAT), ((0, 1),) * 4)
        self.assertEqual(rooms_of(GREAT, ((BIG, BIG),)), ((0, 1), (0, 1), (-2 * BIG, 1), (-2 * BIG, 1)))

    def test_wrong(self):
        for function in (rooms_of, fit_set, fit_paper, reached_shape):
            check_wrong(self, function, NAMES, (SQUARE, WEDGE), [SHAPE_ROWS, SHAPE_ROWS])


class FitSets(unittest.TestCase):
    def test_example(self):
        self.assertEqual(fit_set(SQUARE, WEDGE), (((0, 1), (0, 1)), ((5, 3), (0, 1)), ((0, 1), (5, 4))))

    def test_edges(self):
        self.assertEqual(fit_set(POINT, WEDGE), tuple(fine(c) for c in WEDGE))
        self.assertEqual(fit_set(SPOT, SPOT), (ORIGIN,))
        self.assertEqual(fit_set(SPOT, POINT), (((-3, 1), (2, 1)),))
        self.assertEqual(fit_set(SPOT, STRETCH), (((-3, 1), (2, 1)), ((1, 1), (4, 1))))
        self.assertEqual(fit_set(STRETCH, STRETCH), (ORIGIN,))
        self.assertEqual(fit_set(((1, 1), (3, 2)), STRETCH), (((-1, 1), (-1, 1)), ((1, 1), (0, 1))))
        self.assertIsNone(fit_set(((0, 0), (3, 2)), STRETCH))
        self.assertIsNone(fit_set(((0, 0), (6, 3)), STRETCH))
        self.assertIsNone(fit_set(STRETCH, SPOT))
        self.assertIsNone(fit_set(SQUARE, STRETCH))
        self.assertIsNone(fit_set(WEDGE, SQUARE))
        self.assertEqual(fit_set(WEDGE, WEDGE), (ORIGIN,))
        self.assertEqual(fit_set(UPRIGHT, ((0, 0), (3, 0), (3, 5), (0, 5))), (
            ((-1, 1), (1, 1)), ((2, 1), (1, 1))))
        self.assertEqual(fit_set(LEVEL, ((0, 0), (6, 0), (3, 1))), (((1, 1), (-1, 1)), ((4, 1), (-1, 1)), (
            (5, 2), (-1, 2))))
        self.assertEqual(fit_set(GREAT, GREAT), (ORIGIN,))
        self.assertEqual(fit_set(SQUARE, GREAT), tuple(fine(p) for p in (
            (-BIG, -BIG), (BIG - 1, -BIG), (BIG - 1, BIG - 1), (-BIG, BIG - 1))))

    def test_against_what_the_moved_back_ones_have_in_common(self):
        kinds = {}
        for args in trials(121, 250):
            expected = second_set(*args)
            told = check_calls(self, fit_set, NAMES, args)
            self.assertTrue(is_fine_shape(told))
            self.assertEqual(told, expected and tuple(fine(p) for p in expected), args)
            many = 0 if told is None else min(len(told), 3)
            kinds[many] = kinds.get(many, 0) + 1
        self.assertGreater(min(kinds[k] for k in range(4)), 5)

    def test_does_fit(self):
        rng = random.Random(122)
        count = {True: 0, False: 0}
        for shape, other in trials(123, 150):
            for t in some_fits(shape, other, rng):
                right = fits_by(shape, other, t)
                told = check_calls(self, does_fit, NAMES + ("t",), (shape, other, fine(t)))
                self.assertIs(told, right)
                count[right] += 1
        self.assertGreater(min(count.values()), 100)
        check_wrong(self, does_fit, NAMES + ("t",), (SQUARE, WEDGE, ORIGIN), [SHAPE_ROWS, SHAPE_ROWS, FINE_ROWS])

    def test_numbers_of_any_size_in_t(self):
        self.assertIs(does_fit(POINT, SQUARE, ((1, BIG ** 3), (BIG ** 3 - 1, BIG ** 3))), True)
        self.assertIs(does_fit(POINT, SQUARE, ((-1, BIG ** 3), (1, 2))), False)
        self.assertIs(does_fit(POINT, SQUARE, ((BIG ** 3, 1), (1, 2))), False)
        self.assertEqual(touched_numbers(POINT, SQUARE, ((0, 1), (1, BIG ** 3))), (3,))


class Touching(unittest.TestCase):
    def test_touched_numbers(self):
        rng = random.Random(124)
        lengths = set()
        for shape, other in trials(125, 150):
            for t in some_fits(shape, other, rng):
                if not fits_by(shape, other, t):
                    with self.assertRaises(NoPlace) as caught:
                        touched_numbers(shape, other, fine(t))
                    self.assertEqual(caught.exception.told, fine(t))
                    continue
                told = check_calls(self, touched_numbers, NAMES + ("t",), (shape, other, fine(t)))
                expected = [k for k, (u, room) in enumerate(rooms_with_walls(shape, other)) if dot(u, t) == room]
                self.assertEqual(told, tuple(expected))
                lengths.add(len(told))
        self.assertGreater(len(lengths), 4)

    def test_farthest(self):
        rng = random.Random(126)
        names = NAMES + ("t", "v")
        zero = 0
        for shape, other in trials(127, 150):
            for t in some_fits(shape, other, rng):
                v = rng.choice(((1, 0), (0, -1), (rng.randint(-5, 5), rng.randint(1, 5)), (10 * BIG, 1)))
                if not fits_by(shape, other, t):
                    with self.assertRaises(NoPlace) as caught:
                        farthest(shape, other, fine(t), v)
                    self.assertEqual(caught.exception.told, fine(t))
                    continue
                m = fraction(check_calls(self, farthest, names, (shape, other, fine(t), v)))
                self.assertGreaterEqual(m, 0)
                self.assertTrue(fits_by(shape, other, (t[0] + m * v[0], t[1] + m * v[1])))
                for more in (Fraction(1, BIG ** 3), Fraction(1, 5), BIG):
                    self.assertFalse(fits_by(shape, other, (t[0] + (m + more) * v[0], t[1] + (m + more) * v[1])))
                zero += m == 0
        self.assertGreater(zero, 20)

    def test_edges(self):
        self.assertEqual(touched_numbers(SQUARE, WEDGE, ORIGIN), (0, 2))
        self.assertEqual(touched_numbers(SQUARE, WEDGE, ((5, 3), (0, 1))), (0, 1))
        self.assertEqual(touched_numbers(SQUARE, WEDGE, ((1, 2), (1, 2))), ())
        self.assertEqual(touched_numbers(WEDGE, WEDGE, ORIGIN), (0, 1, 2))
        self.assertEqual(touched_numbers(SPOT, SPOT, ORIGIN), (0, 1, 2, 3))
        self.assertEqual(touched_numbers(POINT, STRETCH, ((2, 1), (1, 1))), (0, 1))
        self.assertEqual(farthest(SQUARE, WEDGE, ORIGIN, (1, 0)), (5, 3))
        self.assertEqual(farthest(SQUARE, WEDGE, ORIGIN, (1, 1)), (5, 7))
        self.assertEqual(farthest(SQUARE, WEDGE, ORIGIN, (-1, 0)), (0, 1))
        self.assertEqual(farthest(POINT, GREAT, ((-BIG, 1), (0, 1)), (1, 0)), (2 * BIG, 1))
        self.assertEqual(farthest(POINT, STRETCH, ORIGIN, (2, 1)), (2, 1))
        self.assertEqual(farthest(POINT, STRETCH, ORIGIN, (1, 1)), (0, 1))

    def test_wrong(self):
        out = ((50, 1), (0, 1))
        rows = [SHAPE_ROWS, SHAPE_ROWS, FINE_ROWS + [(out, NoPlace, out)]]
        check_wrong(self, touched_numbers, NAMES + ("t",), (SQUARE, WEDGE, ORIGIN), rows)
        good = (SQUARE, WEDGE, ORIGIN, (1, 0))
        rows = [SHAPE_ROWS, SHAPE_ROWS, FINE_ROWS, rows_of(WRONG_DIRECTIONS, NoVector)]
        check_wrong(self, farthest, NAMES + ("t", "v"), good, rows)
        # That it does not fit is told behind all else.
        for v in WRONG_DIRECTIONS:
            with self.assertRaises(NoVector):
                farthest(SQUARE, WEDGE, out, v)
        with self.assertRaises(NoPlace) as caught:
            farthest(SQUARE, WEDGE, out, (1, 0))
        self.assertIs(caught.exception.told, out)


class FitPapers(unittest.TestCase):
    names = NAMES + ("value",)

    def test_told_ones(self):
        count = {}
        for args in trials(128, 300):
            paper = check_calls(self, fit_paper, NAMES, args)
            part = second_set(*args)
            if part is None:
                self.assertEqual(paper, ("none", second_pairs(rooms_with_walls(*args))), args)
            else:
                self.assertEqual(paper, ("fits", fine(part[0])))
            self.assertIs(check_calls(self, accepts_fit, self.names, (*args, paper)), True)
            self.assertIs(accepts_reach(*args, ORIGIN, paper), False)
            key = len(paper[1]) if part is None else 0
            count[key] = count.get(key, 0) + 1
        self.assertGreater(min(count[k] for k in (0, 2, 3)), 5)

    def test_told_ones_bent(self):
        for args in trials(129, 80):
            for value in bent(fit_paper(*args)):
                self.assertIs(accepts_fit(*args, value), False, (args, value))

    def test_fits_papers_of_any_hand(self):
        rng = random.Random(130)
        for shape, other in trials(131, 100):
            for t in some_fits(shape, other, rng):
                self.assertIs(accepts_fit(shape, other, ("fits", fine(t))), fits_by(shape, other, t))

    def test_none_papers_of_any_hand(self):
        rng = random.Random(132)
        count = {True: 0, False: 0}
        for args in trials(133, 250):
            paper = fit_paper(*args)
            walls = rooms_with_walls(*args)
            for _ in range(8):
                pairs = sorted((rng.randint(0, len(walls) - 1), rng.choice((1, 1, 2, 3)))
                               for _ in range(rng.choice((2, 2, 3))))
                if paper[0] == "none" and rng.randint(0, 1):
                    times = rng.choice((1, 2, BIG ** 3))
                    pairs = [(k, times * weight) for k, weight in paper[1]]
                    if rng.randint(0, 2) == 0:
                        k = rng.randrange(len(pairs))
                        pairs[k] = (pairs[k][0], pairs[k][1] + 1)
                numbers = [k for k, _ in pairs]
                right = len(set(numbers)) == len(numbers) and second_bar(walls, pairs)
                self.assertIs(accepts_fit(*args, ("none", tuple(pairs))), right, (args, pairs))
                self.assertIs(accepts_fit(*args, ("none", pairs)), False)
                self.assertIs(accepts_fit(*args, ("none", tuple(pairs[::-1]))), False)
                count[right] += 1
        self.assertGreater(min(count.values()), 100)

    def test_edges(self):
        self.assertEqual(fit_paper(SQUARE, POINT), ("none", ((0, 1), (2, 1))))
        self.assertEqual(fit_paper(UPRIGHT, POINT), ("none", ((1, 1), (3, 1))))
        self.assertEqual(fit_paper(STRETCH, LEVEL), ("none", ((0, 1), (1, 1))))
        self.assertEqual(fit_paper(((0, 0), (9, 0)), LEVEL), ("none", ((2, 1), (3, 1))))
        self.assertEqual(fit_paper(((0, 0), (2, 0), (2, 2), (0, 2)), WEDGE), ("none", ((0, 4), (1, 1), (2, 3))))
        self.assertEqual(fit_paper(KITE, SQUARE)[1][0], (0, 1))

        def judged(*pairs):
            return accepts_fit(KITE, SQUARE, ("none", pairs))
        self.assertIs(judged((0, 1), (2, 1)), True)
        self.assertIs(judged((1, 1), (3, 1)), True)
        self.assertIs(judged((0, BIG ** 3), (2, BIG ** 3)), True)
        self.assertIs(judged((2, 1), (0, 1)), False)
        self.assertIs(judged((0, 1), (1, 1)), False)
        self.assertIs(judged((0, 1), (2, 2)), False)
        self.assertIs(judged((0, -1), (2, -1)), False)
        self.assertIs(judged((0, 0), (2, 0)), False)
        self.assertIs(judged((0, 1), (-2, 1)), False)
        self.assertIs(judged((-2, 1), (0, 1)), False)
        self.assertIs(judged((-1, 1), (1, 1)), False)
        self.assertIs(judged((0, 1), (1, 0), (2, 1)), False)
        self.assertIs(judged((0, 0), (1, 1), (3, 1)), False)
        self.assertIs(judged((0, 1), (1, 1), (2, 1), (3, 1)), False)
        self.assertIs(judged((0, 1)), False)
        self.assertIs(judged((0, 1), (4, 1)), False)
        self.assertIs(judged((False, 1), (2, 1)), False)
        self.assertIs(judged((0, True), (2, True)), False)
        self.assertIs(judged((0, (1, 1)), (2, (1, 1))), False)
        self.assertIs(judged((0, 1), (0, 1), (2, 2)), False)
        self.assertIs(accepts_fit(SQUARE, SQUARE, ("none", ((0, 1), (2, 1)))), False)

    def test_any_value(self):
        for value in ODD_THINGS + (
                ("fits",), ("none",), ("fits", None), ("fits", (0, 0)), ("none", None), ("none", ()), ("none", (0, 2)),
                ("none", ((0, 1), (2, 1)), None), ("none", "ab"), ("none", {0: 1, 2: 1}), ("none", ([0, 1], [2, 1])),
                ({}, ((0, 1), (2, 1))), ("by", ORIGIN), ("never", ((0, 1), (2, 1))), ("none", ((None, 1), (2, 1)))):
            for shape, other in ((KITE, SQUARE), (SQUARE, GREAT)):
                self.assertIs(accepts_fit(shape, other, value), False, value)
        for value in ODD_THINGS + (
                ("by",), ("never",), ("by", None), ("by", (0, 0)), ("never", None), ("never", ()), ("never", (0, 2)),
                ("never", ((0, 1), (2, 1)), None), ("never", "ab"), ("never", {0: 1, 2: 1}), ("fits", ORIGIN),
                ("never", ([0, 1], [2, 1])), ({}, ((0, 1), (2, 1))), ("none", ((0, 1), (2, 1))), ([], ORIGIN)):
            for shape, other in ((KITE, SQUARE), (SQUARE, GREAT)):
                self.assertIs(accepts_reach(shape, other, ORIGIN, value), False, value)

    def test_wrong(self):
        check_wrong(self, accepts_fit, self.names, (SQUARE, WEDGE, None), [SHAPE_ROWS, SHAPE_ROWS])


def second_reached(shape, other):
    part = second_set(shape, other)
    if part is None:
        return None
    return hull([plus(a, b) for a in part for b in shape])


def some_places(shape, other, rng):
    """Points of Fractions in what is reached, or near it, and others."""
    rows = [fractions(rng.choice(other)), (Fraction(rng.randint(-9, 9), 2), Fraction(rng.randint(-9, 9), 3))]
    whole = second_reached(shape, other)
    if whole is not None:
        a, b = rng.choice(whole), rng.choice(whole)
        rows += [a, ((a[0] + 2 * b[0]) / 3, (a[1] + 2 * b[1]) / 3), (2 * a[0] - b[0], 2 * a[1] - b[1])]
    return rows


class Reaching(unittest.TestCase):
    names = NAMES + ("p",)

    def test_shapes(self):
        empty = 0
        for args in trials(134, 200):
            expected = second_reached(*args)
            told = check_calls(self, reached_shape, NAMES, args)
            self.assertTrue(is_fine_shape(told))
            self.assertEqual(told, expected and tuple(fine(p) for p in expected), args)
            empty += told is None
        self.assertGreater(empty, 20)

    def test_edges(self):
        self.assertEqual(reached_shape(SQUARE, WEDGE), tuple(fine(p) for p in (
            (0, 0), (Fraction(8, 3), 0), (Fraction(8, 3), 1), (1, Fraction(9, 4)), (0, Fraction(9, 4)))))
        self.assertEqual(reached_shape(WEDGE, WEDGE), tuple(fine(p) for p in WEDGE))
        self.assertEqual(reached_shape(POINT, SPOT), (((3, 1), (-2, 1)),))
        self.assertEqual(reached_shape(SPOT, STRETCH), tuple(fine(p) for p in STRETCH))
        self.assertEqual(reached_shape(POINT, GREAT), tuple(fine(p) for p in GREAT))
        self.assertIsNone(reached_shape(SQUARE, STRETCH))

    def test_more_corners_than_let(self):
        other = scaled(TURNED, 100)
        with self.assertRaises(TooMany) as caught:
            reached_shape(SIXTY, other)
        self.assertEqual(caught.exception.most, 60)
        with self.assertRaises(NoShape):
            reached_shape(SIXTY, list(other))
        p = fine(plus(SIXTY[3], fractions(fit_set(SIXTY, other)[7])))
        self.assertIs(is_reached(SIXTY, other, p), True)
        self.assertEqual(reach_paper(SIXTY, other, p)[0], "by")
        self.assertEqual(len(reached_shape(SIXTY, scaled(SIXTY, 3))), 60)

    def test_is_reached(self):
        rng = random.Random(135)
        count = {True: 0, False: 0}
        for shape, other in trials(136, 150):
            whole = second_reached(shape, other)
            for p in some_places(shape, other, rng):
                right = whole is not None and place(whole, p) != "out"
                told = check_calls(self, is_reached, self.names, (shape, other, fine(p)))
                self.assertIs(told, right)
                count[right] += 1
        self.assertGreater(min(count.values()), 100)

    def test_told_papers(self):
        rng = random.Random(137)
        count = {}
        for shape, other in trials(138, 80):
            for p in some_places(shape, other, rng):
                args = (shape, other, fine(p))
                paper = check_calls(self, reach_paper, self.names, args)
                part = second_set(shape, other)
                # p less the shape: all shifts by which p is in it.
                around = tuple(less(p, corner) for corner in shape)
                part = part and common([part, hull(around)])
                if part:
                    self.assertEqual(paper, ("by", fine(part[0])))
                else:
                    self.assertEqual(paper, ("never", second_pairs(walls_for(shape, other, p))))
                self.assertIs(check_calls(self, accepts_reach, self.names + ("value",), (*args, paper)), True)
                self.assertIs(accepts_fit(shape, other, paper), False)
                key = 0 if part else len(paper[1])
                count[key] = count.get(key, 0) + 1
        self.assertGreater(min(count[k] for k in (0, 2, 3)), 5)

    def test_told_papers_bent(self):
        rng = random.Random(139)
        for shape, other in trials(140, 40):
            for p in some_places(shape, other, rng):
                for value in bent(reach_paper(shape, other, fine(p))):
                    self.assertIs(accepts_reach(shape, other, fine(p), value), False)

    def test_papers_of_any_hand(self):
        rng = random.Random(141)
        count = {True: 0, False: 0}
        for shape, other in trials(142, 80):
            for p in some_places(shape, other, rng):
                args = (shape, other, fine(p))
                t = rng.choice(some_fits(shape, other, rng))
                right = fits_by(shape, other, t) and place(shape, less(p, t)) != "out"
                self.assertIs(accepts_reach(*args, ("by", fine(t))), right)
                walls = walls_for(shape, other, p)
                paper = reach_paper(*args)
                pairs = sorted((rng.randint(0, len(walls) - 1), rng.choice((1, 1, 2)))
                               for _ in range(rng.choice((2, 3))))
                if paper[0] == "never" and rng.randint(0, 2):
                    pairs = [(k, weight * rng.choice((1, 3))) for k, weight in paper[1]]
                numbers = [k for k, _ in pairs]
                right = len(set(numbers)) == len(numbers) and second_bar(walls, pairs)
                self.assertIs(accepts_reach(*args, ("never", tuple(pairs))), right)
                self.assertIs(accepts_reach(*args, ("never", pairs)), False)
                count[right] += 1
        self.assertGreater(min(count.values()), 20)

    def test_walls_of_one_direction(self):
        # Walls 3 and 5 have one direction, 1 and 7 the opposite one.
        p = ((5, 1), (0, 1))
        self.assertEqual(reach_paper(SQUARE, SQUARE, p), ("never", ((1, 1), (5, 1))))
        for pairs, right in (
                (((1, 2), (3, 1), (5, 1)), True), (((1, 1), (3, 1), (5, 1)), False), (((1, 3), (5, 4), (7, 1)), True),
                (((1, 1), (5, 2), (7, 1)), True), (((1, 1), (5, 5), (7, 4)), False), (((5, 1), (7, 1)), False),
                (((1, 1), (3, 1)), False), (((1, 1), (5, 1)), True)):
            self.assertIs(accepts_reach(SQUARE, SQUARE, p, ("never", pairs)), right, pairs)
            self.assertIs(second_bar(walls_for(SQUARE, SQUARE, (5, 0)), pairs), right, pairs)

    def test_wrong(self):
        good = (SQUARE, WEDGE, ORIGIN)
        for function in (is_reached, reach_paper):
            check_wrong(self, function, self.names, good, [SHAPE_ROWS, SHAPE_ROWS, FINE_ROWS])
        check_wrong(self, accepts_reach, self.names + ("value",), (*good, None), [SHAPE_ROWS, SHAPE_ROWS, FINE_ROWS])


class Speed(unittest.TestCase):
    def test_sixty_corners_of_sixty_digits(self):
        begin = time.process_time()
        shape, other = cornered(60, BIG // 10 ** 7), hull([(-y, x) for x, y in cornered(60, BIG // 10 ** 4)])
        paper = fit_paper(shape, other)
        self.assertEqual(paper[0], "fits")
        self.assertIs(accepts_fit(shape, other, paper), True)
        self.assertIs(is_fine_shape(fit_set(shape, other)), True)
        paper = fit_paper(other, shape)
        self.assertEqual(paper[0], "none")
        self.assertIs(accepts_fit(other, shape, paper), True)
        for p in (((BIG, 3), (1, 7)), fit_set(shape, other)[0]):
            paper = reach_paper(shape, other, p)
            self.assertIs(accepts_reach(shape, other, p, paper), True)
        self.assertLess(time.process_time() - begin, 10)


if __name__ == "__main__":
    unittest.main()
