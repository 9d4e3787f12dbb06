"""Which points simple shapes own, and the samples among them ([10], [0.2] (g))."""

import random
import time
import unittest
from fractions import Fraction

from gridshapes.errors import NoFraction, NoNumber, NoPlace, NoPoint, NoSimple
from gridshapes.owners import (
    does_own, number_of_sample, owned_below, owned_sample, owned_samples, owners_among, row_runs)
from gridshapes.simples import rim_points, simple_of, simple_twice, where_is
from tests.outlines import BENT, COMB, DART, OUTLINES, STAR, TRIANGLE, owned, random_simple, sides_of
from tests.reckon import BIG, GREAT, SQUARE, fine, fraction, pair, plus
from tests.wrong import (
    WRONG_FRACTIONS, WRONG_NUMBERS, WRONG_SHIFTS, WRONG_SIMPLES, assert_raises_told, check_calls, check_wrong,
    row_of_things, rows_of)

SIMPLE_ROWS = rows_of(WRONG_SIMPLES, NoSimple)
SHIFT_ROWS = rows_of(WRONG_SHIFTS, NoPoint)
NUMBER_ROWS = rows_of(WRONG_NUMBERS + (BIG + 1, -BIG - 1), NoNumber)
PLACE_ROWS = rows_of(WRONG_NUMBERS + (-1, -BIG), NoPlace)
OFFSET_ROWS = rows_of(WRONG_FRACTIONS + ((1, 1), (-1, 2), (3, 2), (BIG, 1)), NoFraction)
NONE, HALF = (0, 1), (1, 2)
OFFSETS = ((0, 1), (1, 2), (1, 3), (2, 3), (6, 7), (1, BIG ** 3), (BIG ** 3 - 1, BIG ** 3))


def outlines(seed, many, size=6):
    rng = random.Random(seed)
    return [random_simple(rng, rng.choice((3, 4, 5, 6, 8, 10, 12)), size) for _ in range(many)]


def offset_trials(seed, many):
    rng = random.Random(seed)
    for outline in OUTLINES + tuple(outlines(seed + 1, many)):
        yield outline, rng.choice(OFFSETS), rng.choice(OFFSETS)


def samples_of(outline, s, t):
    """All owned samples, by j, then i."""
    xs, ys = [x for x, _ in outline], [y for _, y in outline]
    return [(i, j) for j in range(min(ys) - 1, max(ys) + 2) for i in range(min(xs) - 1, max(xs) + 2)
            if owned(outline, (i + fraction(s), j + fraction(t)))]


def runs_of(numbers):
    """Whole numbers, ascending, as pairs of the first and last of those one behind the other."""
    runs = []
    for i in numbers:
        if runs and runs[-1][1] == i - 1:
            runs[-1] = (runs[-1][0], i)
        else:
            runs.append((i, i))
    return tuple(runs)


def by_place(function):
    """The same function with the offsets by position too, as check_wrong hands them in."""
    def called(*args, **named):
        if not named:
            named = {"s": args[-2], "t": args[-1]}
            args = args[:-2]
        return function(*args, **named)
    called.__name__ = function.__name__
    return called


class Owning(unittest.TestCase):
    names = ("simple", "point")

    def test_example(self):
        owned_ones = [(x, y) for y in range(-1, 4) for x in range(-1, 4) if does_own(TRIANGLE, (x, y))]
        self.assertEqual(owned_ones, [(0, 0), (1, 0), (0, 1)])
        self.assertEqual(owned_samples(TRIANGLE), 3)
        self.assertEqual((row_runs(TRIANGLE, 0), row_runs(TRIANGLE, 1)), (((0, 1),), ((0, 0),)))
        self.assertEqual(owned_samples(TRIANGLE, s=HALF, t=HALF), 1)

    def test_against_a_small_bit_aside(self):
        rng = random.Random(220)
        count = {"rim": [0, 0], "within": [0, 0], "out": [0, 0]}
        for outline in OUTLINES + tuple(outlines(221, 50)):
            points = [(Fraction(rng.randint(-4, 28), 4), Fraction(rng.randint(-4, 28), 4)) for _ in range(8)]
            points += [(Fraction(x), Fraction(y)) for x, y in outline]
            points += [((a[0] + 2 * Fraction(b[0])) / 3, (a[1] + 2 * Fraction(b[1])) / 3) for a, b in sides_of(outline)]
            for p in points:
                told = check_calls(self, does_own, self.names, (outline, fine(p)))
                self.assertIs(told, owned(outline, p), (outline, p))
                count[where_is(outline, fine(p))][told] += 1
                if p[0].denominator == p[1].denominator == 1:
                    self.assertIs(does_own(outline, (int(p[0]), int(p[1]))), told)
        self.assertEqual((count["within"][False], count["out"][True]), (0, 0))
        self.assertGreater(min(count["rim"]), 50)

    def test_edges(self):
        self.assertEqual([does_own(SQUARE, p) for p in SQUARE], [True, False, False, False])
        self.assertIs(does_own(SQUARE, (HALF, NONE)), True)
        self.assertIs(does_own(SQUARE, (HALF, (1, 1))), False)
        self.assertIs(does_own(SQUARE, (NONE, HALF)), True)
        self.assertIs(does_own(SQUARE, ((1, 1), HALF)), False)
        self.assertEqual([does_own(GREAT, p) for p in GREAT], [True, False, False, False])
        self.assertIs(does_own(GREAT, ((BIG ** 3 - 1, BIG ** 2), (0, 1))), True)
        self.assertIs(does_own(GREAT, ((BIG ** 3, 1), (0, 1))), False)
        # At a right corner above which there is nothing, and at one with shape above it.
        self.assertEqual([does_own(COMB, p) for p in ((1, 1), (4, 1), (4, 0), (4, 3), (5, 1))],
                         [False, True, True, False, False])
        self.assertIs(does_own(((0, 0), (4, 0), (2, 1), (4, 4), (0, 4)), (2, 1)), False)
        self.assertIs(does_own(((0, 0), (4, 0), (4, 4), (2, 1), (0, 4)), (2, 1)), True)

    def test_just_one_piece_owns_each_point(self):
        # The comb as its teeth and its back.
        pieces = [((0, 0), (9, 0), (9, 1), (0, 1)), ((0, 1), (1, 1), (1, 3), (0, 3)), ((4, 1), (5, 1), (5, 3), (4, 3)),
                  ((8, 1), (9, 1), (9, 3), (8, 3))]
        for x in range(-1, 22):
            for y in range(-1, 9):
                p = fine((Fraction(x, 2), Fraction(y, 2)))
                told = check_calls(self, owners_among, ("simples", "point"), (pieces, p))
                self.assertEqual(len(told), int(does_own(COMB, p)))
                self.assertIsInstance(told, list)
        self.assertEqual(owners_among(pieces, (0, 1)), [1])
        self.assertEqual(owners_among([SQUARE, BENT, SQUARE, moved(SQUARE, (1, 0))], (0, 0)), [0, 1, 2])
        self.assertEqual(owners_among((), (0, 0)), [])
        self.assertEqual(owners_among((SQUARE,) * 60, (0, 0)), list(range(60)))

    def test_wrong(self):
        check_wrong(self, does_own, self.names, (BENT, (0, 0)), [SIMPLE_ROWS, SHIFT_ROWS])
        rows = row_of_things(BENT, WRONG_SIMPLES, NoSimple, 60, 0)
        check_wrong(self, owners_among, ("simples", "point"), ([BENT, SQUARE], (0, 0)), [rows, SHIFT_ROWS])


def moved(outline, v):
    return tuple(plus(corner, v) for corner in outline)


class Samples(unittest.TestCase):
    def test_against_all_samples(self):
        longest = 0
        for outline, s, t in offset_trials(222, 40):
            samples = samples_of(outline, s, t)
            self.assertEqual(owned_samples(outline, s=s, t=t), len(samples), (outline, s, t))
            low, high = outline[0][1] - 2, max(y for _, y in outline) + 2
            for j in range(low, high + 1):
                below = len([1 for _, y in samples if y < j])
                self.assertEqual(owned_below(outline, j, s=s, t=t), below)
                runs = runs_of([x for x, y in samples if y == j])
                told = row_runs(outline, j, s=s, t=t)
                self.assertEqual(told, runs, (outline, j, s, t))
                self.assertIsInstance(told, tuple)
                longest = max(longest, len(runs))
            for n, sample in enumerate(samples):
                self.assertEqual(owned_sample(outline, n, s=s, t=t), sample, (outline, n, s, t))
                self.assertEqual(number_of_sample(outline, *sample, s=s, t=t), n)
            for i in range(-2, 9):
                for j in (low, low + 2, low + 3, high):
                    if (i, j) not in samples:
                        self.assertIsNone(number_of_sample(outline, i, j, s=s, t=t))
            assert_raises_told(self, NoPlace, len(samples), owned_sample, outline, len(samples), s=s, t=t)
        self.assertGreaterEqual(longest, 3)

    def test_offsets_are_none_of_themselves(self):
        for outline in (SQUARE, TRIANGLE, BENT, COMB, STAR):
            args = ("simple",), (outline,)
            many = check_calls(self, owned_samples, *args)
            self.assertEqual(many, owned_samples(outline, s=NONE, t=NONE))
            for offset in OFFSETS[1:3]:
                self.assertEqual(owned_samples(outline, s=offset), owned_samples(outline, t=NONE, s=offset))
                self.assertEqual(owned_samples(outline, t=offset), owned_samples(outline, s=NONE, t=offset))
            self.assertEqual(check_calls(self, owned_below, ("simple", "j"), (outline, 99)), many)
            samples = samples_of(outline, NONE, NONE)
            self.assertEqual(check_calls(self, owned_sample, ("simple", "n"), (outline, 0)), samples[0])
            i, j = samples[-1]
            self.assertEqual(check_calls(self, number_of_sample, ("simple", "i", "j"), (outline, i, j)), many - 1)
            check_calls(self, row_runs, ("simple", "j"), (outline, j))
            with self.assertRaises(TypeError):
                owned_samples(outline, HALF, HALF)
            with self.assertRaises(TypeError):
                row_runs(outline, 0, HALF)

    def test_runs_beside_each_other_are_one(self):
        # Between both teeth there is a gap, but none with a sample in it.
        teeth = simple_of([(0, 0), (8, 0), (8, 4), (4, 1), (0, 4)])
        self.assertEqual(row_runs(teeth, 1), ((0, 7),))
        self.assertEqual(row_runs(teeth, 2), ((0, 2), (6, 7)))
        self.assertEqual(row_runs(teeth, 1, s=(1, 2), t=(1, 100)), ((0, 7),))
        self.assertEqual(row_runs(teeth, 1, s=NONE, t=(1, 100)), ((0, 3), (5, 7)))
        # One run apart, then two as one, then three as one.
        more = simple_of([(0, 0), (14, 0), (14, 4), (10, 1), (6, 4), (5, 4), (5, 1), (1, 1), (1, 4), (0, 4)])
        self.assertEqual(row_runs(more, 1), ((0, 0), (5, 13)))
        self.assertEqual(row_runs(more, 2), ((0, 0), (5, 8), (12, 13)))
        saw = simple_of([(0, 0), (18, 0), (18, 4), (14, 1), (12, 4), (10, 1), (6, 4), (5, 4), (5, 1), (1, 1), (1, 4),
                         (0, 4)])
        self.assertEqual(row_runs(saw, 1), ((0, 0), (5, 17)))
        self.assertEqual([owned_sample(saw, n) for n in (17, 18, 19, 31, 32)],
                         [(17, 0), (0, 1), (5, 1), (17, 1), (0, 2)])
        self.assertEqual(row_runs(COMB, 1), ((0, 0), (4, 4), (8, 8)))
        self.assertEqual(row_runs(COMB, 0), ((0, 8),))
        self.assertEqual(row_runs(COMB, 3), ())
        self.assertEqual(row_runs(COMB, 2, s=(6, 7), t=(6, 7)), ((0, 0), (4, 4), (8, 8)))

    def test_offsets_of_nought_and_just_below_one(self):
        below_one = (BIG ** 3 - 1, BIG ** 3)
        for s, t in ((NONE, NONE), (NONE, below_one), (below_one, NONE), (below_one, below_one)):
            self.assertEqual(owned_samples(SQUARE, s=s, t=t), 1)
        self.assertEqual(row_runs(TRIANGLE, 1, t=below_one), ((0, 0),))
        self.assertEqual(row_runs(TRIANGLE, 1, s=below_one), ((0, 0),))
        self.assertEqual(row_runs(TRIANGLE, 1, s=below_one, t=below_one), ())
        self.assertEqual(row_runs(TRIANGLE, 0, s=below_one, t=below_one), ((0, 0),))
        self.assertEqual(owned_samples(TRIANGLE, s=below_one, t=below_one), 1)
        self.assertEqual(owned_sample(TRIANGLE, 0, s=below_one, t=below_one), (0, 0))

    def test_sixty_digits(self):
        self.assertEqual(owned_samples(GREAT), (2 * BIG) ** 2)
        self.assertEqual(owned_samples(GREAT, s=HALF, t=(2, 3)), (2 * BIG) ** 2)
        self.assertEqual(owned_below(GREAT, 0, s=HALF), 2 * BIG * BIG)
        self.assertEqual(row_runs(GREAT, BIG - 1), ((-BIG, BIG - 1),))
        self.assertEqual(row_runs(GREAT, BIG), ())
        self.assertEqual(owned_sample(GREAT, 2 * BIG * BIG + 7), (7 - BIG, 0))
        self.assertEqual(number_of_sample(GREAT, 7 - BIG, 0), 2 * BIG * BIG + 7)
        self.assertIsNone(number_of_sample(GREAT, BIG, 0))
        triangle = ((-BIG, -BIG), (BIG, -BIG), (-BIG, BIG))
        self.assertEqual(owned_samples(triangle), BIG * (2 * BIG + 1))
        self.assertEqual(owned_samples(triangle, s=HALF, t=HALF), BIG * (2 * BIG - 1))

    def test_great_shapes(self):
        rng = random.Random(223)
        for outline in (COMB, STAR, DART) + tuple(outlines(224, 4)):
            times = rng.randrange(10 ** 50, 10 ** 59)
            great = tuple((times * x + rng.randint(-9, 9), times * y + rng.randint(-9, 9)) for x, y in outline)
            great = simple_of(great)
            s, t = pair(Fraction(rng.randint(0, 10 ** 20), 10 ** 20 + 1)), rng.choice(OFFSETS)
            many = owned_samples(great, s=s, t=t)
            self.assertLess(abs(2 * many - simple_twice(great)), 10 ** 63)
            for n in (0, 1, many // 7, many // 2, many - 1):
                i, j = owned_sample(great, n, s=s, t=t)
                self.assertEqual(number_of_sample(great, i, j, s=s, t=t), n)
                self.assertIs(does_own(great, fine((i + fraction(s), j + fraction(t)))), True)
                self.assertLessEqual(owned_below(great, j, s=s, t=t), n)
                self.assertGreater(owned_below(great, j + 1, s=s, t=t), n)
            assert_raises_told(self, NoPlace, many, owned_sample, great, many, s=s, t=t)

    def test_twice_and_the_rim_tell_how_many_about(self):
        # Of four offsets the numbers together are those of a grid twice as fine.
        for outline in OUTLINES + tuple(outlines(225, 10)):
            twofold = tuple((2 * x, 2 * y) for x, y in outline)
            numbers = [owned_samples(outline, s=s, t=t) for s in (NONE, HALF) for t in (NONE, HALF)]
            self.assertEqual(sum(numbers), owned_samples(twofold))
            self.assertLessEqual(abs(2 * numbers[0] - simple_twice(outline)), 2 * rim_points(outline))

    def test_speed(self):
        begin = time.process_time()
        great = tuple((10 ** 59 // 1000 * 99 * x + y, 10 ** 59 // 1000 * 98 * y + x * x) for x, y in COMB)
        great = simple_of(great)
        offset = (10 ** 199 + 1, 10 ** 200)
        many = owned_samples(great, s=offset, t=offset)
        for n in (0, many // 3, many // 2, many - 1):
            sample = owned_sample(great, n, s=offset, t=offset)
            self.assertEqual(number_of_sample(great, *sample, s=offset, t=offset), n)
        self.assertLess(time.process_time() - begin, 10)

    def test_wrong(self):
        offsets = [OFFSET_ROWS, OFFSET_ROWS]
        check_wrong(self, by_place(owned_samples), ("simple", "s", "t"), (BENT, NONE, HALF), [SIMPLE_ROWS] + offsets)
        for function in (owned_below, row_runs):
            check_wrong(self, by_place(function), ("simple", "j", "s", "t"), (BENT, 0, NONE, HALF),
                        [SIMPLE_ROWS, NUMBER_ROWS] + offsets)
        check_wrong(self, by_place(number_of_sample), ("simple", "i", "j", "s", "t"), (BENT, 0, 0, NONE, HALF),
                    [SIMPLE_ROWS, NUMBER_ROWS, NUMBER_ROWS] + offsets)
        check_wrong(self, by_place(owned_sample), ("simple", "n", "s", "t"), (BENT, 0, NONE, HALF),
                    [SIMPLE_ROWS, PLACE_ROWS] + offsets)
        # That there is none is told behind the offsets.
        for value, error, told in OFFSET_ROWS:
            assert_raises_told(self, error, told, owned_sample, BENT, 99, s=value)
            assert_raises_told(self, error, told, owned_sample, BENT, BIG ** 3, t=value)
        assert_raises_told(self, NoPlace, 99, owned_sample, BENT, 99)
        assert_raises_told(self, NoPlace, BIG ** 3, owned_sample, BENT, BIG ** 3, s=HALF)


if __name__ == "__main__":
    unittest.main()
