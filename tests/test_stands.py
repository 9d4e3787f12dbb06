"""How two shapes stand, and the papers of it ([5], [0.2] (c))."""

import itertools
import random
import time
import unittest
from fractions import Fraction

from gridshapes.errors import NoPoint, NoShape, TooMany
from gridshapes.rounds import moved, walls_of
from gridshapes.stands import (
    accepts_stand, count_shifts, meets, overlaps, parting_directions, stand_of, stand_paper, stand_shape,
    trial_directions)
from tests.reckon import (
    BIG, FULL_SHAPES, KITE, LEVEL, POINT, SHAPES, SPOT, SQUARE, STRETCH, WEDGE, all_sums, common, cornered,
    differences, dot, fine, fractions, grid, hull, pair, place, random_shape, shifted, word)
from tests.wrong import ODD_THINGS, WRONG_SHAPES, WRONG_SHIFTS, bent, check_calls, check_wrong, rows_of

NAMES = ("one", "other", "t")
SHAPE_ROWS = rows_of(WRONG_SHAPES, NoShape)
SHIFT_ROWS = rows_of(WRONG_SHIFTS, NoPoint)
GREAT = ((-BIG, -BIG), (BIG, -BIG), (BIG, BIG), (-BIG, BIG))
SIXTY = cornered(60)
TURNED = hull([(-y, x) for x, y in SIXTY])


def some_shifts(one, other, rng):
    """Shifts of all stands: corners of the stand shape, points on its sides, and others."""
    corners = [fractions(c) for c in differences(one, other)]
    rows = [rng.choice(corners)]
    a, b = rng.choice(corners), rng.choice(corners)
    rows.append(((a[0] + b[0]) / 2, (a[1] + b[1]) / 2))
    rows.append(((a[0] + 4 * b[0]) / 5, (a[1] + 4 * b[1]) / 5))
    rows.append((Fraction(rng.randint(-6, 6)), Fraction(rng.randint(-6, 6))))
    rows.append((Fraction(rng.randint(-9, 9), 2), Fraction(rng.randint(-9, 9), 3)))
    k = corners.index(a)
    b = corners[k - 1]
    rows.append(((2 * a[0] + b[0]) / 3, (2 * a[1] + b[1]) / 3))
    return rows


def trials(seed, many):
    rng = random.Random(seed)
    for _ in range(many):
        one = rng.choice(SHAPES) if rng.randint(0, 1) else random_shape(rng, 4)
        other = rng.choice(SHAPES) if rng.randint(0, 1) else random_shape(rng, 4)
        for shift in some_shifts(one, other, rng):
            yield one, other, shift


def second_directions(one, other):
    rows = [u for u, _ in walls_of(one)]
    return rows + [(-x, -y) for (x, y), _ in walls_of(other) if (-x, -y) not in rows]


def ends(u, one, other, shift):
    return max(dot(u, p) for p in shifted(one, shift)), min(dot(u, p) for p in other)


def second_paper(one, other, shift):
    """The told paper, by the common part and all dots."""
    told_word = word(one, other, shift)
    directions = second_directions(one, other)
    if told_word == "apart":
        for u in directions:
            near, far = ends(u, one, other, shift)
            if near < far:
                return ("apart", u, pair(near))
    part = common([shifted(one, shift), other])
    if told_word == "overlap":
        return ("overlap", fine((sum(x for x, _ in part) / len(part), sum(y for _, y in part) / len(part))))
    if len(one) < 3 or len(other) < 3:
        return ("touch", fine(part[0]), None)
    for u in directions:
        near, far = ends(u, one, other, shift)
        if near <= far:
            return ("touch", fine(part[0]), (u, pair(near)))


class StandShapes(unittest.TestCase):
    def test_example(self):
        self.assertEqual(stand_shape(SQUARE, WEDGE), ((-1, -1), (4, -1), (4, 0), (0, 3), (-1, 3)))

    def test_against_all_differences(self):
        for one, other in itertools.product(SHAPES, SHAPES):
            told = check_calls(self, stand_shape, ("one", "other"), (one, other))
            self.assertEqual(told, differences(one, other))

    def test_too_many(self):
        self.assertEqual(len(stand_shape(SIXTY, SIXTY)), 60)
        for function in (stand_shape, count_shifts):
            with self.assertRaises(TooMany) as caught:
                function(SIXTY, TURNED)
            self.assertEqual(caught.exception.most, 60)
            with self.assertRaises(NoShape):
                function(SIXTY, None)
        self.assertGreater(len(differences(SIXTY, TURNED)), 60)

    def test_wrong(self):
        for function in (stand_shape, count_shifts, trial_directions):
            check_wrong(self, function, ("one", "other"), (SQUARE, WEDGE), [SHAPE_ROWS, SHAPE_ROWS])


class Stands(unittest.TestCase):
    def test_examples(self):
        self.assertEqual(stand_of(SQUARE, WEDGE, (3, 0)), "overlap")
        self.assertEqual(stand_of(SQUARE, WEDGE, (4, 0)), "touch")
        self.assertEqual(stand_of(SQUARE, WEDGE, (5, 0)), "apart")
        self.assertEqual(stand_of(SQUARE, WEDGE), "overlap")

    def test_against_common_points(self):
        for one, other, shift in trials(40, 150):
            told_word = word(one, other, shift)
            args = (one, other, fine(shift))
            self.assertEqual(check_calls(self, stand_of, NAMES, args), told_word, args)
            self.assertIs(check_calls(self, meets, NAMES, args), told_word != "apart")
            self.assertIs(check_calls(self, overlaps, NAMES, args), told_word == "overlap")
            back = (-shift[0], -shift[1])
            self.assertEqual(stand_of(other, one, fine(back)), told_word)
            if shift[0].denominator == shift[1].denominator == 1:
                whole = (int(shift[0]), int(shift[1]))
                self.assertEqual(stand_of(one, other, whole), told_word)
                self.assertEqual(stand_of(moved(one, whole), other), told_word)

    def test_by_the_stand_shape(self):
        for one, other, shift in trials(41, 100):
            where = place(differences(one, other), shift)
            both_full = len(one) > 2 and len(other) > 2
            expected = "apart" if where == "out" else "overlap" if where == "within" and both_full else "touch"
            self.assertEqual(stand_of(one, other, fine(shift)), expected)

    def test_edges(self):
        self.assertEqual(stand_of(SQUARE, SQUARE, (1, 1)), "touch")
        self.assertEqual(stand_of(SQUARE, SQUARE, (1, 0)), "touch")
        self.assertEqual(stand_of(SQUARE, SQUARE, ((999, 1000), (0, 1))), "overlap")
        self.assertEqual(stand_of(SQUARE, SQUARE, ((1001, 1000), (0, 1))), "apart")
        self.assertEqual(stand_of(SQUARE, KITE), "overlap")
        self.assertEqual(stand_of(POINT, KITE), "touch")
        self.assertEqual(stand_of(POINT, POINT), "touch")
        self.assertEqual(stand_of(POINT, POINT, ((1, BIG), (0, 1))), "apart")
        self.assertEqual(stand_of(STRETCH, STRETCH, (4, 2)), "touch")
        self.assertEqual(stand_of(STRETCH, STRETCH, (6, 3)), "apart")
        self.assertEqual(stand_of(STRETCH, LEVEL, (-2, 0)), "touch")
        self.assertEqual(stand_of(STRETCH, LEVEL, (0, -1)), "apart")
        self.assertEqual(stand_of(LEVEL, KITE), "touch")

    def test_the_shift_is_zero_of_itself(self):
        for one, other in itertools.product(SHAPES, SHAPES):
            told_word = word(one, other, (0, 0))
            self.assertEqual(stand_of(one, other), told_word)
            self.assertEqual(stand_of(other=other, one=one), told_word)
            self.assertIs(meets(one, other), told_word != "apart")
            self.assertIs(overlaps(one, other), told_word == "overlap")
            self.assertEqual(parting_directions(one, other), parting_directions(one, other, (0, 0)))
            self.assertEqual(stand_paper(one, other), stand_paper(one, other, (0, 0)))

    def test_sixty_digits_and_corners(self):
        self.assertEqual(stand_of(GREAT, GREAT, (BIG, BIG)), "overlap")
        self.assertEqual(stand_of(GREAT, ((BIG, BIG),), (BIG, BIG)), "touch")
        self.assertEqual(stand_of(((0, 0),), GREAT, ((BIG * BIG + 1, BIG), (0, 1))), "apart")
        self.assertEqual(stand_of(moved(SQUARE, (BIG - 1, 0)), GREAT, (1, 0)), "touch")
        self.assertEqual(stand_of(moved(SQUARE, (BIG - 1, 0)), GREAT, ((BIG - 1, BIG), (0, 1))), "overlap")
        self.assertEqual(stand_of(SIXTY, TURNED), word(SIXTY[::6], TURNED[::6], (0, 0)))
        self.assertEqual(stand_paper(SIXTY, TURNED)[0], stand_of(SIXTY, TURNED))

    def test_wrong(self):
        for function in (stand_of, meets, overlaps, parting_directions, stand_paper):
            check_wrong(self, function, NAMES, (SQUARE, WEDGE, (9, 9)), [SHAPE_ROWS, SHAPE_ROWS, SHIFT_ROWS])
        check_wrong(self, accepts_stand, NAMES + ("paper",), (SQUARE, WEDGE, (0, 0), None), [
            SHAPE_ROWS, SHAPE_ROWS, SHIFT_ROWS])


class Directions(unittest.TestCase):
    def test_trial_directions(self):
        for one, other in itertools.product(SHAPES, SHAPES):
            told = check_calls(self, trial_directions, ("one", "other"), (one, other))
            self.assertIsInstance(told, list)
            self.assertEqual(told, second_directions(one, other))
        self.assertEqual(trial_directions(SQUARE, WEDGE), [(0, -1), (1, 0), (0, 1), (-1, 0), (-3, -4)])
        self.assertEqual(trial_directions(WEDGE, SQUARE), [(0, -1), (3, 4), (-1, 0), (0, 1), (1, 0)])
        self.assertEqual(trial_directions(STRETCH, POINT), [
            (1, -2), (-1, 2), (2, 1), (-2, -1), (-1, 0), (0, -1), (1, 0), (0, 1)])

    def test_lists_are_new(self):
        trial_directions(SQUARE, WEDGE).append(1)
        trial_directions(POINT, POINT).append(1)
        self.assertEqual(trial_directions(POINT, POINT), [(1, 0), (0, 1), (-1, 0), (0, -1)])

    def test_parting_directions(self):
        for one, other, shift in trials(42, 80):
            expected = []
            for u in second_directions(one, other):
                near, far = ends(u, one, other, shift)
                if near < far:
                    expected.append((u, pair(near)))
            told = check_calls(self, parting_directions, NAMES, (one, other, fine(shift)))
            self.assertEqual(told, expected)
            self.assertEqual(told != [], word(one, other, shift) == "apart")


class Papers(unittest.TestCase):
    def test_examples(self):
        self.assertEqual(stand_paper(SQUARE, WEDGE, (4, 0)), ("touch", ((4, 1), (0, 1)), ((-1, 0), (-4, 1))))
        self.assertEqual(stand_paper(SQUARE, WEDGE, (5, 0)), ("apart", (-1, 0), (-5, 1)))
        self.assertEqual(stand_paper(SQUARE, SQUARE), ("overlap", ((1, 2), (1, 2))))

    def test_told_ones(self):
        for one, other, shift in trials(43, 150):
            told = check_calls(self, stand_paper, NAMES, (one, other, fine(shift)))
            self.assertEqual(told, second_paper(one, other, shift), (one, other, shift))
            args = (one, other, fine(shift), told)
            self.assertIs(check_calls(self, accepts_stand, NAMES + ("paper",), args), True)

    def test_told_ones_bent(self):
        for one, other, shift in trials(44, 12):
            told = stand_paper(one, other, fine(shift))
            for paper in bent(told):
                self.assertIs(accepts_stand(one, other, fine(shift), paper), False, (one, other, shift, paper))

    def test_apart_papers_of_any_hand(self):
        rng = random.Random(45)
        count = {True: 0, False: 0}
        for one, other, shift in trials(46, 100):
            for _ in range(12):
                u = (rng.randint(-3, 3), rng.randint(-3, 3))
                near, far = ends(u, one, other, shift)
                c = rng.choice((near, far, (near + far) / 2, near - Fraction(1, 99), far - Fraction(1, 99),
                                Fraction(rng.randint(-9, 9), rng.randint(1, 3))))
                right = u != (0, 0) and near <= c < far
                self.assertIs(accepts_stand(one, other, fine(shift), ("apart", u, pair(c))), right)
                count[right] += 1
                if right:
                    big = (u[0] * BIG ** 3, u[1] * BIG ** 3)
                    self.assertIs(accepts_stand(one, other, fine(shift), ("apart", big, pair(c * BIG ** 3))), True)
                    self.assertIs(accepts_stand(one, other, fine(shift), ("touch", u, pair(c))), False)
        self.assertGreater(min(count.values()), 100)

    def test_touch_and_overlap_papers_of_any_hand(self):
        rng = random.Random(47)
        count = {"touch": [0, 0], "overlap": [0, 0]}
        for one, other, shift in trials(48, 100):
            t = fine(shift)
            both_full = len(one) > 2 and len(other) > 2
            for _ in range(10):
                p = rng.choice((rng.choice(other), rng.choice(shifted(one, shift)),
                                (Fraction(rng.randint(-9, 9), 2), Fraction(rng.randint(-9, 9), 3))))
                p = fractions(fine(p))
                places = (place(shifted(one, shift), p), place(other, p))
                right = both_full and places == ("within", "within")
                self.assertIs(accepts_stand(one, other, t, ("overlap", fine(p))), right)
                count["overlap"][right] += 1
                u = (rng.randint(-2, 2), rng.randint(-2, 2))
                near, far = ends(u, one, other, shift)
                c = rng.choice((near, far, (near + far) / 2, near - Fraction(1, 99), far + Fraction(1, 99)))
                right = both_full and "out" not in places and near <= c <= far and u != (0, 0)
                self.assertIs(accepts_stand(one, other, t, ("touch", fine(p), (u, pair(c)))), right)
                count["touch"][right] += 1
                right = not both_full and "out" not in places
                self.assertIs(accepts_stand(one, other, t, ("touch", fine(p), None)), right)
                count["touch"][right] += 1
        self.assertGreater(min(count["touch"] + count["overlap"]), 5)

    def test_lines_of_touches(self):
        def judged(line, p=((1, 1), (1, 2))):
            return accepts_stand(SQUARE, SQUARE, (1, 0), ("touch", p, line))
        self.assertIs(judged(((-1, 0), (-1, 1))), True)
        self.assertIs(judged(((-7 * BIG ** 2, 0), (-7 * BIG ** 2, 1))), True)
        self.assertIs(judged(((-1, 0), (-1, 1)), ((1, 1), (0, 1))), True)
        self.assertIs(judged(((-1, 0), (-1, 1)), ((1, 1), (9, 8))), False)
        self.assertIs(judged(((-1, 0), (-1, 1)), (1, 0)), False)
        for line in (None, ((1, 0), (1, 1)), ((0, 0), (0, 1)), ((-1, 0), (0, 1)), ((-1, 0), (-2, 1)), ((-1, 0), -1),
                     ((-1, 0), (-1, 1), 0), ((-1, 0),), [(-1, 0), (-1, 1)], ((-1, False), (-1, 1)),
                     ((-1, 0), (-2, 2)), ((-1, 0), (1, -1)), ((-1, 0), (-1, True)), ((-1.0, 0), (-1, 1)), (), {},
                     (None, (-1, 1)), ((-1, 0), None), ([-1, 0], (-1, 1)), "ab"):
            self.assertIs(judged(line), False, line)

    def test_whole_points_are_no_fine_points(self):
        self.assertIs(accepts_stand(KITE, KITE, (0, 0), ("overlap", (0, 0))), False)
        self.assertIs(accepts_stand(KITE, KITE, (0, 0), ("overlap", ((0, 1), (0, 1)))), True)
        self.assertIs(accepts_stand(POINT, POINT, (0, 0), ("touch", (0, 0), None)), False)
        self.assertIs(accepts_stand(POINT, POINT, (0, 0), ("touch", ((0, 1), (0, 1)), None)), True)

    def test_zero_and_truths(self):
        self.assertIs(accepts_stand(SPOT, POINT, (0, 0), ("apart", (0, 0), (0, 1))), False)
        self.assertIs(accepts_stand(SPOT, POINT, (-2, 2), ("apart", (-1, 0), (-1, 1))), True)
        self.assertIs(accepts_stand(SPOT, POINT, (-2, 2), ("apart", (-1, False), (-1, 1))), False)
        self.assertIs(accepts_stand(SPOT, POINT, (-2, 2), ("apart", (-1, 0), (-1, True))), False)
        self.assertIs(accepts_stand(SPOT, POINT, (-2, 2), ("apart", (-1, 0), -1)), False)

    def test_any_value(self):
        for paper in ODD_THINGS + (
                ("apart",), ("touch",), ("overlap",), ("apart", None, None), ("apart", (1, 0), None),
                ("touch", None, None), ("overlap", None), ("overlap", ()), ("apart", (1, 0), (0, 1), None),
                ("overlap", ((1, 2), (1, 2)), None), (None, None, None), ([], [], []), ("touch", [], {}),
                ("part", (1, 0), (0, 1)), ({}, ((1, 2), (1, 2)))):
            for shift in ((0, 0), (1, 0), (2, 0)):
                self.assertIs(accepts_stand(SQUARE, SQUARE, shift, paper), False, paper)

    def test_speed(self):
        near = tuple((x - 2000, y - 3) for x, y in SIXTY)
        begin = time.process_time()
        for shift in ((0, 0), ((1, 3), (5, 7)), ((BIG + 1, BIG), (7, 3))):
            for _ in range(5):
                self.assertIs(accepts_stand(near, TURNED, shift, stand_paper(near, TURNED, shift)), True)
        self.assertLess(time.process_time() - begin, 10)


class Shifts(unittest.TestCase):
    def test_against_going_through_them(self):
        rng = random.Random(49)
        for _ in range(60):
            one = rng.choice(SHAPES) if rng.randint(0, 1) else random_shape(rng, 3)
            other = rng.choice(SHAPES) if rng.randint(0, 1) else random_shape(rng, 3)
            told = check_calls(self, count_shifts, ("one", "other"), (one, other))
            words = [stand_of(one, other, t) for t in grid(differences(one, other))]
            self.assertEqual(told, (words.count("touch"), words.count("overlap")))

    def test_small_ones_by_the_second_way(self):
        for one, other in ((SQUARE, WEDGE), (STRETCH, LEVEL), (POINT, WEDGE), (KITE, SQUARE), (LEVEL, SQUARE)):
            words = [word(one, other, t) for t in itertools.product(range(-9, 10), repeat=2)]
            self.assertEqual(count_shifts(one, other), (words.count("touch"), words.count("overlap")))

    def test_sixty_digits(self):
        self.assertEqual(count_shifts(GREAT, GREAT), (16 * BIG, (4 * BIG - 1) ** 2))
        self.assertEqual(count_shifts(POINT, GREAT), ((2 * BIG + 1) ** 2, 0))
        self.assertEqual(count_shifts(((0, 0), (BIG, 0)), ((0, 0), (0, BIG))), ((BIG + 1) ** 2, 0))
        self.assertEqual(count_shifts(((0, 0), (BIG, 0)), GREAT), ((3 * BIG + 1) * (2 * BIG + 1), 0))

    def test_full_ones(self):
        for one, other in itertools.product(FULL_SHAPES, FULL_SHAPES):
            both = grid(all_sums(other, hull([(-x, -y) for x, y in one])))
            touch = [where for where in both.values() if where == "rim"]
            self.assertEqual(count_shifts(one, other), (len(touch), len(both) - len(touch)))


if __name__ == "__main__":
    unittest.main()
