"""Loops, clashes and simple shapes ([10])."""

import itertools
import random
import time
import unittest
from fractions import Fraction

from gridshapes.errors import NoPoint, NoSimple
from gridshapes.rounds import hull_of
from gridshapes.simples import (
    all_clashes, first_clash, is_clash, is_loop, is_simple, points_within, rim_points, sides_under, simple_of,
    simple_twice, where_is)
from tests.outlines import (
    BENT, COMB, DART, OUTLINES, STAR, TRIANGLE, random_simple, second_clashes, second_simple, sides_of, twice,
    where)
from tests.reckon import BIG, FULL_SHAPES, GREAT, SQUARE, cornered, fine, hull, place, plus, random_shapes
from tests.wrong import (
    CLASHING, ODD_THINGS, THIRTEEN, WRONG_LOOPS, WRONG_SHIFTS, WRONG_SIMPLES, assert_raises_told, bent, check_calls,
    check_wrong, rows_of)

LOOP_ROWS = [(value, NoSimple, None) for value in WRONG_LOOPS]
SIMPLE_ROWS = rows_of(WRONG_SIMPLES, NoSimple)
SHIFT_ROWS = rows_of(WRONG_SHIFTS, NoPoint)


def loops(seed, many):
    rng = random.Random(seed)
    for _ in range(many):
        size = rng.choice((1, 2, 3, 6))
        points = [(rng.randint(0, size), rng.randint(0, size)) for _ in range(rng.choice((3, 3, 4, 4, 5, 6, 8, 12)))]
        yield points if rng.randint(0, 1) else tuple(points)


def outlines(seed, many, size=6):
    rng = random.Random(seed)
    return [random_simple(rng, rng.choice((3, 4, 5, 6, 8, 10, 12)), size) for _ in range(many)]


class Loops(unittest.TestCase):
    def test_is_loop(self):
        for loop in (SQUARE, list(SQUARE), THIRTEEN[:12], list(THIRTEEN[:12]), ((0, 0),) * 3, [(0, 0)] * 12,
                     [(BIG, -BIG), (-BIG, BIG), (BIG, BIG)], ((0, 0), (1, 0), (2, 0))):
            self.assertIs(check_calls(self, is_loop, ("value",), (loop,)), True)
        for value in WRONG_LOOPS:
            self.assertIs(is_loop(value), False, value)

    def test_against_what_sides_have_in_common(self):
        count = {True: 0, False: 0}
        for loop in loops(200, 250):
            expected = second_clashes(loop)
            told = check_calls(self, all_clashes, ("loop",), (loop,))
            self.assertEqual(told, expected, loop)
            self.assertIsInstance(told, list)
            self.assertEqual(check_calls(self, first_clash, ("loop",), (loop,)), expected[0] if expected else None)
            for i, j in itertools.product(range(-1, len(loop) + 1), repeat=2):
                self.assertIs(is_clash(loop, (i, j)), (i, j) in expected)
            count[expected == []] += 1
        self.assertGreater(min(count.values()), 30)
        for loop in loops(201, 10):
            check_calls(self, is_clash, ("loop", "value"), (loop, (0, 1)))

    def test_neighbours(self):
        # Straight on is no clash, back is one; three sides are neighbours each of each.
        self.assertEqual(all_clashes([(0, 0), (1, 0), (2, 0), (0, 2)]), [])
        self.assertEqual(all_clashes([(0, 0), (2, 0), (1, 0), (0, 2)]), [(0, 1), (0, 2)])
        self.assertEqual(all_clashes([(1, 0), (0, 2), (0, 0), (2, 0)]), [(0, 2), (2, 3)])
        self.assertEqual(all_clashes([(2, 0), (1, 0), (0, 2), (0, 0)]), [(0, 3), (1, 3)])
        self.assertEqual(all_clashes([(0, 0), (1, 0), (2, 0)]), [(0, 2), (1, 2)])
        self.assertEqual(all_clashes([(0, 0), (2, 0), (0, 0)]), [(0, 1), (2, 2)])
        self.assertEqual(all_clashes([(0, 0), (1, 0), (1, 0)]), [(0, 2), (1, 1)])
        self.assertEqual(all_clashes([(5, 5)] * 3), [(0, 0), (1, 1), (2, 2)])
        self.assertEqual(all_clashes([(0, 0), (1, 0), (1, 0), (0, 1)]), [(0, 2), (1, 1)])
        self.assertEqual(first_clash([(0, 0), (1, 0), (1, 0), (0, 1)]), (0, 2))

    def test_no_neighbours(self):
        self.assertEqual(all_clashes([(0, 0), (2, 2), (2, 0), (0, 2)]), [(0, 2)])
        # An end on a side, an end on an end, along one another, and one in a line with another one.
        self.assertEqual(all_clashes([(0, 0), (4, 0), (4, 4), (2, 0), (0, 4)]), [(0, 2), (0, 3)])
        self.assertEqual(all_clashes([(0, 0), (4, 0), (4, 4), (0, 0), (-4, 4)]), [(0, 2), (0, 3), (2, 4), (3, 4)])
        self.assertEqual(all_clashes([(0, 0), (4, 0), (4, 4), (0, 0), (-4, 4), (-4, 0)]),
                         [(0, 2), (0, 3), (2, 5), (3, 5)])
        self.assertEqual(all_clashes([(0, 0), (4, 0), (4, 1), (3, 0), (1, 0), (0, 1)]), [(0, 2), (0, 3), (0, 4)])
        self.assertEqual(all_clashes([(0, 0), (2, 0), (2, 1), (3, 0), (5, 0), (5, 3), (0, 3)]), [])

    def test_twelve_points(self):
        self.assertEqual(all_clashes([(0, 0)] * 12), [
            (i, j) for i, j in itertools.product(range(12), repeat=2)
            if i == j or (i + 1 < j and (i, j) != (0, 11))])
        self.assertEqual(all_clashes(THIRTEEN[:12]), second_clashes(THIRTEEN[:12]))

    def test_any_value(self):
        loop = [(0, 0), (2, 2), (2, 0), (0, 2), (0, 0)]
        self.assertIs(is_clash(loop, (0, 2)), True)
        for value in ODD_THINGS + ((2, 0), [0, 2], (0, 2, 2), (False, 2), (0, 2.0), "02", (0,), ((0, 2),), (9, 9)):
            self.assertIs(is_clash(loop, value), False, value)
        for value in bent((0, 2)):
            self.assertIs(is_clash(loop, value), False, value)
        self.assertIs(is_clash(loop, (4, 4)), True)
        self.assertIs(is_clash(((0, 0), (1, 0), (1, 0)), (1, 1)), True)
        self.assertIs(is_clash(((0, 0), (1, 0), (1, 0)), (True, True)), False)

    def test_sixty_digits(self):
        self.assertEqual(all_clashes(((-BIG, -BIG), (BIG, BIG), (BIG, -BIG), (-BIG, BIG))), [(0, 2)])
        self.assertEqual(all_clashes(((-BIG, -BIG), (BIG, BIG - 1), (BIG, BIG), (-BIG, -BIG + 1))), [])
        self.assertEqual(all_clashes(((0, 0), (BIG, BIG - 1), (BIG - 1, BIG - 2), (-BIG, 1))), second_clashes(
            ((0, 0), (BIG, BIG - 1), (BIG - 1, BIG - 2), (-BIG, 1))))

    def test_wrong(self):
        for function in (first_clash, all_clashes, simple_of):
            check_wrong(self, function, ("loop",), (SQUARE,), [LOOP_ROWS])
        check_wrong(self, is_clash, ("loop", "value"), (SQUARE, None), [LOOP_ROWS])


class Simples(unittest.TestCase):
    def test_simple_of(self):
        bad = 0
        for loop in loops(202, 400):
            clashes = second_clashes(loop)
            if clashes:
                bad += 1
                with self.assertRaises(NoSimple) as caught:
                    simple_of(loop)
                self.assertEqual(caught.exception.told, clashes[0])
            else:
                told = check_calls(self, simple_of, ("loop",), (loop,))
                self.assertEqual(told, second_simple(loop))
                self.assertIs(is_simple(told), True)
                self.assertIs(is_simple(loop), loop == told and isinstance(loop, tuple))
        self.assertGreater(bad, 100)

    def test_told_form(self):
        self.assertEqual(simple_of([(0, 2), (0, 0), (2, 0)]), TRIANGLE)
        self.assertEqual(simple_of([(0, 2), (2, 0), (0, 0)]), TRIANGLE)
        self.assertEqual(simple_of([(1, 0), (2, 0), (1, 1), (0, 2), (0, 1), (0, 0)]), TRIANGLE)
        self.assertEqual(simple_of([(1, 0), (0, 0), (-1, 0), (0, -5)]), ((0, -5), (1, 0), (-1, 0)))
        self.assertEqual(simple_of([(0, 2), (1, 2), (1, 1), (2, 1), (2, 0), (1, 0), (0, 0), (0, 1)]), BENT)
        self.assertEqual(simple_of(list(GREAT)), GREAT)
        for outline in OUTLINES + tuple(outlines(203, 25)):
            for k in range(len(outline)):
                turned = outline[k:] + outline[:k]
                self.assertEqual(simple_of(turned), outline)
                self.assertEqual(simple_of(list(turned[::-1])), outline)
                self.assertIs(is_simple(turned), k == 0)
                self.assertIs(is_simple(turned[::-1]), False)
                self.assertIs(is_simple(list(turned)), False)

    def test_round_ones_are_simple(self):
        for shape in FULL_SHAPES + tuple(random_shapes(204, 80)) + (cornered(11), cornered(12), GREAT):
            if 2 < len(shape) <= 12:
                self.assertIs(is_simple(shape), True)
                self.assertEqual(simple_of(shape), shape)
        self.assertEqual(simple_of(hull_of([(0, 3), (2, 1), (4, 0), (0, 0)])), ((0, 0), (4, 0), (0, 3)))

    def test_is_simple(self):
        for value in OUTLINES + tuple(outlines(205, 25)):
            self.assertIs(check_calls(self, is_simple, ("value",), (value,)), True)
        for value in WRONG_SIMPLES:
            self.assertIs(is_simple(value), False, value)

    def test_clashing_ones(self):
        for loop in CLASHING:
            assert_raises_told(self, NoSimple, loop, simple_twice, loop)
            with self.assertRaises(NoSimple) as caught:
                simple_of(loop)
            self.assertEqual(caught.exception.told, second_clashes(loop)[0])


def points_by_place(outline):
    told = {"rim": 0, "within": 0, "out": 0}
    xs, ys = [x for x, _ in outline], [y for _, y in outline]
    for x in range(min(xs), max(xs) + 1):
        for y in range(min(ys), max(ys) + 1):
            told[where(outline, (x, y))] += 1
    return told


class Places(unittest.TestCase):
    def test_numbers_of_points(self):
        for outline in OUTLINES + tuple(outlines(206, 40)):
            told = points_by_place(outline)
            self.assertEqual(check_calls(self, rim_points, ("simple",), (outline,)), told["rim"])
            self.assertEqual(check_calls(self, points_within, ("simple",), (outline,)), told["within"])
            self.assertEqual(check_calls(self, simple_twice, ("simple",), (outline,)), twice(outline))
        self.assertEqual((simple_twice(BENT), rim_points(BENT), points_within(BENT)), (6, 8, 0))
        self.assertEqual((simple_twice(GREAT), rim_points(GREAT), points_within(GREAT)),
                         (8 * BIG ** 2, 8 * BIG, (2 * BIG - 1) ** 2))

    def test_where(self):
        rng = random.Random(207)
        for outline in OUTLINES + tuple(outlines(208, 35)):
            points = [(Fraction(rng.randint(-4, 28), 4), Fraction(rng.randint(-4, 28), 4)) for _ in range(8)]
            points += [(Fraction(rng.randint(-1, 7)), Fraction(rng.randint(-1, 7))) for _ in range(8)]
            points += [(Fraction(x), Fraction(y)) for x, y in outline]
            points += [((a[0] + 2 * Fraction(b[0])) / 3, (a[1] + 2 * Fraction(b[1])) / 3) for a, b in sides_of(outline)]
            points += [(x + Fraction(1, 10 ** 90), y) for x, y in outline]
            for p in points:
                expected = where(outline, p)
                told = check_calls(self, where_is, ("simple", "point"), (outline, fine(p)))
                self.assertEqual(told, expected, (outline, p))
                under = [k for k, side in enumerate(sides_of(outline)) if place(hull(side), p) != "out"]
                self.assertEqual(check_calls(self, sides_under, ("simple", "point"), (outline, fine(p))), under)
                if p[0].denominator == p[1].denominator == 1:
                    whole = (int(p[0]), int(p[1]))
                    self.assertEqual(where_is(outline, whole), expected)
                    self.assertEqual(sides_under(outline, whole), under)

    def test_edges(self):
        self.assertEqual(where_is(DART, (1, 1)), "rim")
        self.assertEqual(where_is(DART, (0, 0)), "rim")
        self.assertEqual(where_is(DART, (2, 2)), "out")
        self.assertEqual(where_is(DART, ((1, 2), (1, 2))), "within")
        self.assertEqual(sides_under(DART, (1, 1)), [1, 2])
        self.assertEqual(sides_under(DART, (0, 0)), [0, 3])
        self.assertEqual(sides_under(DART, (2, 1)), [1])
        self.assertEqual(sides_under(DART, (2, 2)), [])
        # At the level of corners, and of level sides.
        self.assertEqual([where_is(COMB, (x, 3)) for x in range(-1, 11)],
                         ["out", "rim", "rim", "out", "out", "rim", "rim", "out", "out", "rim", "rim", "out"])
        self.assertEqual([where_is(COMB, (x, 1)) for x in range(-1, 11)],
                         ["out", "rim", "rim", "rim", "rim", "rim", "rim", "rim", "rim", "rim", "rim", "out"])
        self.assertEqual([where_is(STAR, (x, -2)) for x in (-7, -6, -3, -2, 0, 2, 3, 6, 7)],
                         ["out", "rim", "rim", "rim", "within", "rim", "rim", "rim", "out"])
        self.assertEqual(where_is(GREAT, (BIG, 0)), "rim")
        self.assertEqual(where_is(GREAT, ((BIG ** 2 - 1, BIG), (0, 1))), "within")
        self.assertEqual(where_is(GREAT, ((BIG ** 3, 1), (0, 1))), "out")
        moved = tuple(plus(corner, (BIG - 9, BIG - 9)) for corner in COMB)
        self.assertEqual(where_is(moved, (BIG - 7, BIG - 7)), "out")

    def test_wrong(self):
        for function in (simple_twice, rim_points, points_within):
            check_wrong(self, function, ("simple",), (BENT,), [SIMPLE_ROWS])
        for function in (where_is, sides_under):
            check_wrong(self, function, ("simple", "point"), (BENT, (0, 0)), [SIMPLE_ROWS, SHIFT_ROWS])

    def test_speed(self):
        begin = time.process_time()
        for _ in range(200):
            self.assertIs(is_simple(COMB), True)
        self.assertLess(time.process_time() - begin, 5)


if __name__ == "__main__":
    unittest.main()
