"""A shape on a leg, and the papers of it ([6], [0.2] (d))."""

import itertools
import random
import time
import unittest
from fractions import Fraction

from gridshapes.errors import NoFraction, NoMenu, NoPoint, NoShape, NoVector
from gridshapes.moving import (
    accepts_free, accepts_leg, both_moving, course_of, free_paper, free_until, is_free, leg_paper, meeting_time,
    meets_of, overlap_time, word_at)
from gridshapes.rounds import moved
from gridshapes.stands import stand_of
from tests.reckon import (
    BIG, KITE, LEVEL, POINT, SHAPES, SQUARE, STRETCH, UPRIGHT, WEDGE, cornered, differences, dot, fine, fraction,
    fractions, hull, less, pair, place, plus, random_shape, shifted, word)
from tests.wrong import (
    ODD_THINGS, WRONG_POINTS, WRONG_SHAPES, WRONG_VECTORS, bent, check_calls, check_wrong, row_of_things, rows_of)

LEG = ("mover", "still", "shift", "vector")
MENU_LEG = ("mover", "shapes", "shift", "vector")
ONE, NONE = (1, 1), (0, 1)
GREAT = ((-BIG, -BIG), (BIG, -BIG), (BIG, BIG), (-BIG, BIG))
SHAPE_ROWS = rows_of(WRONG_SHAPES, NoShape)
POINT_ROWS = rows_of(WRONG_POINTS, NoPoint)
VECTOR_ROWS = rows_of(WRONG_VECTORS, NoVector)
LEG_ROWS = [SHAPE_ROWS, SHAPE_ROWS, POINT_ROWS, VECTOR_ROWS]
MENU_ROWS = [SHAPE_ROWS, row_of_things(SQUARE, WRONG_SHAPES, NoMenu, 24), POINT_ROWS, VECTOR_ROWS]
WRONG_MOMENTS = ODD_THINGS + ((-1, 2), (3, 2), (2, 1), (2, 2), (0, 2), (1, -1), (0, 0), (True, 1), (1, True), [1, 2],
                              (1, 2, 3), ((1, 2), (1, 2)), (1.0, 2), (-1, 1))


def legs(seed, many, size=3):
    rng = random.Random(seed)
    for _ in range(many):
        mover = rng.choice(SHAPES) if rng.randint(0, 1) else random_shape(rng, size)
        still = rng.choice(SHAPES) if rng.randint(0, 1) else random_shape(rng, size)
        shift = (rng.randint(-8, 8), rng.randint(-8, 8))
        if rng.randint(0, 4) == 0:
            shift = rng.choice(differences(mover, still))
        vector = (rng.randint(-9, 9), rng.randint(-9, 9))
        if rng.randint(0, 2) == 0:
            aim = rng.choice(differences(mover, still))
            vector = less(aim, shift)
        if rng.randint(0, 9) == 0:
            vector = (0, 0)
        yield mover, still, shift, vector


def at(shift, vector, moment):
    return (shift[0] + Fraction(moment) * vector[0], shift[1] + Fraction(moment) * vector[1])


def second_word(mover, still, shift, vector, moment):
    return word(mover, still, at(shift, vector, moment))


def all_moments(mover, still, shift, vector):
    """0, 1 and all moments at which the way crosses a line through two corners of the stand shape."""
    return moments_on(differences(mover, still), shift, vector)


def moments_on(stand, shift, vector):
    moments = {Fraction(0), Fraction(1)}
    for a, b in itertools.combinations(stand, 2):
        side = less(b, a)
        speed = vector[0] * side[1] - vector[1] * side[0]
        if speed != 0:
            way = less(a, shift)
            moments.add(Fraction(way[0] * side[1] - way[1] * side[0], speed))
    if vector != (0, 0):
        moments |= {Fraction(dot(less(c, shift), vector), dot(vector, vector)) for c in stand}
    return sorted(m for m in moments if 0 <= m <= 1)


def second_times(mover, still, shift, vector):
    """Both times, by the places of all such moments, and of those in the middle between any two neighbours."""
    stand = differences(mover, still)
    moments = moments_on(stand, shift, vector)
    met = [m for m in moments if place(stand, at(shift, vector, m)) != "out"]
    spans = [(a, b) for a, b in zip(moments, moments[1:]) if len(mover) > 2 and len(still) > 2 and
             place(stand, at(shift, vector, (a + b) / 2)) == "within"]
    meeting = (pair(met[0]), pair(met[-1])) if met else None
    overlap = (pair(spans[0][0]), pair(spans[-1][1])) if spans else None
    return meeting, overlap


class Times(unittest.TestCase):
    def test_example(self):
        leg = (SQUARE, WEDGE, (10, 0), (-12, 0))
        self.assertEqual(meeting_time(*leg), ((1, 2), (11, 12)))
        self.assertEqual(overlap_time(*leg), ((1, 2), (11, 12)))
        self.assertEqual(course_of(*leg), [
            ((0, 1), "apart", "apart"), ((1, 2), "touch", "overlap"), ((11, 12), "touch", "apart"),
            ((1, 1), "apart", None)])

    def test_words(self):
        moments = [Fraction(0), Fraction(1), Fraction(1, 2), Fraction(1, 3), Fraction(7, 9), Fraction(BIG, BIG + 1)]
        for leg in legs(80, 60):
            for m in moments + all_moments(*leg)[:4]:
                told = check_calls(self, word_at, LEG + ("moment",), (*leg, pair(m)))
                self.assertEqual(told, second_word(*leg, m))
                self.assertEqual(told, stand_of(leg[0], leg[1], fine(at(leg[2], leg[3], m))))

    def test_times(self):
        for leg in legs(81, 150):
            meeting, overlap = second_times(*leg)
            self.assertEqual(check_calls(self, meeting_time, LEG, leg), meeting, leg)
            self.assertEqual(check_calls(self, overlap_time, LEG, leg), overlap, leg)

    def test_edges(self):
        def times(mover, still, shift, vector):
            return meeting_time(mover, still, shift, vector), overlap_time(mover, still, shift, vector)
        self.assertEqual(times(SQUARE, SQUARE, (0, 0), (0, 0)), ((NONE, ONE), (NONE, ONE)))
        self.assertEqual(times(SQUARE, SQUARE, (1, 0), (0, 0)), ((NONE, ONE), None))
        self.assertEqual(times(SQUARE, SQUARE, (2, 0), (0, 0)), (None, None))
        self.assertEqual(times(SQUARE, SQUARE, (1, 0), (0, 5)), ((NONE, (1, 5)), None))
        self.assertEqual(times(SQUARE, SQUARE, (1, -1), (0, 3)), ((NONE, (2, 3)), None))
        self.assertEqual(times(SQUARE, SQUARE, (1, 1), (4, 4)), ((NONE, NONE), None))
        self.assertEqual(times(SQUARE, SQUARE, (5, 5), (-4, -4)), ((ONE, ONE), None))
        self.assertEqual(times(SQUARE, SQUARE, (1, 0), (-1, 0)), ((NONE, ONE), (NONE, ONE)))
        self.assertEqual(times(SQUARE, SQUARE, (0, 0), (2, 0)), ((NONE, (1, 2)), (NONE, (1, 2))))
        self.assertEqual(times(SQUARE, SQUARE, (2, 0), (-2, 0)), (((1, 2), ONE), ((1, 2), ONE)))
        self.assertEqual(times(SQUARE, SQUARE, (2, 0), (-2, 2)), (((1, 2), (1, 2)), None))
        self.assertEqual(times(SQUARE, SQUARE, (2, -1), (-2, 2)), (((1, 2), ONE), ((1, 2), ONE)))
        self.assertEqual(times(POINT, POINT, (-2, 0), (4, 0)), (((1, 2), (1, 2)), None))
        self.assertEqual(times(POINT, POINT, (-2, 1), (4, 0)), (None, None))
        self.assertEqual(times(STRETCH, LEVEL, (0, 5), (0, -9)), second_times(STRETCH, LEVEL, (0, 5), (0, -9)))
        self.assertEqual(times(POINT, SQUARE, (-1, 1), (4, 0)), (((1, 4), (1, 2)), None))
        self.assertEqual(times(UPRIGHT, KITE, (-9, 0), (9, 0)), second_times(UPRIGHT, KITE, (-9, 0), (9, 0)))

    def test_courses(self):
        for leg in legs(82, 100):
            meeting, overlap = second_times(*leg)
            marks = sorted({Fraction(0), Fraction(1)} | {fraction(m) for m in (meeting or ()) + (overlap or ())})
            expected = []
            for mark, after in itertools.zip_longest(marks, marks[1:]):
                between = None if after is None else second_word(*leg, (mark + after) / 2)
                expected.append((pair(mark), second_word(*leg, mark), between))
            told = check_calls(self, course_of, LEG, leg)
            self.assertIsInstance(told, list)
            self.assertEqual(told, expected, leg)

    def test_sixty_digits(self):
        leg = (GREAT, SQUARE, (BIG, 0), (10 * BIG, 0))
        self.assertEqual(meeting_time(*leg), (NONE, pair(Fraction(1, 10 * BIG))))
        self.assertEqual(overlap_time(*leg), (NONE, pair(Fraction(1, 10 * BIG))))
        leg = (SQUARE, WEDGE, (BIG, 0), (-10 * BIG, 0))
        self.assertEqual(meeting_time(*leg), (pair(Fraction(BIG - 4, 10 * BIG)), pair(Fraction(BIG + 1, 10 * BIG))))
        leg = (POINT, ((3, 3),), (-BIG, -BIG), (10 * BIG, 10 * BIG))
        self.assertEqual(meeting_time(*leg), (pair(Fraction(BIG + 3, 10 * BIG)),) * 2)

    def test_wrong(self):
        good = (SQUARE, WEDGE, (0, 0), (0, 0))
        for function in (meeting_time, overlap_time, course_of, leg_paper, free_paper):
            check_wrong(self, function, LEG, good, LEG_ROWS)
        for function in (accepts_leg, accepts_free):
            check_wrong(self, function, LEG + ("value",), (*good, None), LEG_ROWS)
        check_wrong(self, word_at, LEG + ("moment",), (*good, NONE), LEG_ROWS + [rows_of(WRONG_MOMENTS, NoFraction)])

    def test_both_moving(self):
        rng = random.Random(83)
        names = LEG + ("other_shift", "other_vector")
        for mover, still, shift, vector in legs(84, 60):
            other_shift = (rng.randint(-4, 4), rng.randint(-4, 4))
            other_vector = rng.choice((vector, (0, 0), (rng.randint(-5, 5), rng.randint(-5, 5))))
            args = (mover, still, shift, vector, other_shift, other_vector)
            told = check_calls(self, both_moving, names, args)
            self.assertIsInstance(told, tuple)
            beside = (mover, still, less(shift, other_shift), less(vector, other_vector))
            self.assertEqual(told, second_times(*beside))
        self.assertEqual(both_moving(SQUARE, SQUARE, (BIG, 0), (-10 * BIG, 0), (-BIG, 0), (10 * BIG, 0)), (
            (pair(Fraction(2 * BIG - 1, 20 * BIG)), pair(Fraction(2 * BIG + 1, 20 * BIG))),) * 2)
        check_wrong(self, both_moving, names, (SQUARE, WEDGE, (0, 0), (0, 0), (0, 0), (0, 0)),
                    LEG_ROWS + [POINT_ROWS, VECTOR_ROWS])


class Menus(unittest.TestCase):
    def menus(self, seed, many):
        rng = random.Random(seed)
        for mover, still, shift, vector in legs(seed, many):
            shapes = [still] + [moved(random_shape(rng, 3), (rng.randint(-5, 5), rng.randint(-5, 5)))
                                for _ in range(rng.randint(0, 4))]
            yield mover, shapes + shapes[:rng.randint(0, 1)], shift, vector

    def test_against_the_times(self):
        some = {True: 0, False: 0}
        for mover, shapes, shift, vector in self.menus(85, 80):
            times = [second_times(mover, shape, shift, vector) for shape in shapes]
            meets = sorted((fraction(meeting[0]), k) for k, (meeting, _) in enumerate(times) if meeting)
            args = (mover, shapes, shift, vector)
            told = check_calls(self, meets_of, MENU_LEG, args)
            self.assertEqual(told, [(pair(m), k) for m, k in meets])
            begins = [fraction(overlap[0]) for _, overlap in times if overlap]
            self.assertIs(check_calls(self, is_free, MENU_LEG, args), begins == [])
            some[begins == []] += 1
            hit = "overlap" in [second_word(mover, shape, shift, vector, 0) for shape in shapes]
            expected = None if hit else pair(min(begins, default=1))
            self.assertEqual(check_calls(self, free_until, MENU_LEG, args), expected)
            self.assertEqual(free_until(mover, tuple(shapes), shift, vector), expected)
            self.assertEqual(meets_of(mover, tuple(shapes), shift, vector), told)
        self.assertGreater(min(some.values()), 10)

    def test_edges(self):
        row = [moved(SQUARE, (4, 0)), moved(SQUARE, (2, 0)), moved(SQUARE, (4, 0)), moved(SQUARE, (0, 9))]
        self.assertEqual(meets_of(SQUARE, row, (0, 0), (4, 0)), [((1, 4), 1), ((3, 4), 0), ((3, 4), 2)])
        self.assertIs(is_free(SQUARE, row, (0, 0), (4, 0)), False)
        self.assertEqual(free_until(SQUARE, row, (0, 0), (4, 0)), (1, 4))
        self.assertEqual(free_until(SQUARE, row, (0, 0), (1, 0)), ONE)
        self.assertIs(is_free(SQUARE, row, (0, 0), (1, 0)), True)
        self.assertEqual(free_until(SQUARE, row, (1, 0), (1, 0)), NONE)
        self.assertIs(is_free(SQUARE, row, (1, 0), (1, 0)), False)
        self.assertIsNone(free_until(SQUARE, row, (2, 0), (1, 0)))
        self.assertIsNone(free_until(SQUARE, row, (2, 0), (0, 0)))
        self.assertEqual(free_until(SQUARE, row, (1, 0), (0, 0)), ONE)
        self.assertEqual(meets_of(SQUARE, row, (0, 0), (0, 1)), [])
        self.assertIs(is_free(POINT, [WEDGE], (-1, 1), (9, 0)), True)
        self.assertEqual(free_until(POINT, [WEDGE], (1, 1), (9, 0)), ONE)

    def test_moments_by_value(self):
        row = [moved(SQUARE, (k, 0)) for k in (11, 10, 9, 8, 7, 6, 5, 4, 3, 2)]
        told = meets_of(SQUARE, row, (0, 0), (12, 0))
        self.assertEqual(told, [(pair(Fraction(k, 12)), 10 - k) for k in range(1, 11)])

    def test_twenty_four_shapes(self):
        row = [moved(cornered(60), (k * 2000, 0)) for k in range(24)]
        begin = time.process_time()
        told = meets_of(cornered(60), row, (-BIG, 0), (10 * BIG, 0))
        self.assertEqual([number for _, number in told], list(range(24)))
        self.assertIs(is_free(cornered(60), row, (-BIG, 0), (10 * BIG, 0)), False)
        self.assertEqual(free_until(cornered(60), row, (-BIG, 0), (10 * BIG, 0)), told[0][0])
        self.assertLess(time.process_time() - begin, 10)

    def test_wrong(self):
        for function in (meets_of, is_free, free_until):
            check_wrong(self, function, MENU_LEG, (SQUARE, [WEDGE], (0, 0), (0, 0)), MENU_ROWS)


def judged_first(leg, moment, p, u):
    mover, still, shift, vector = leg
    there = shifted(mover, at(shift, vector, moment))
    if place(there, p) == "out" or place(still, p) == "out":
        return False
    if moment == 0:
        return u is None
    if u is None or dot(u, vector) <= 0:
        return False
    return max(dot(u, c) for c in there) == min(dot(u, c) for c in still)


def swept_dots(leg, u):
    mover, still, shift, vector = leg
    near = max(dot(u, plus(c, s)) for c in mover for s in (shift, plus(shift, vector)))
    return near, min(dot(u, c) for c in still)


class LegPapers(unittest.TestCase):
    def test_told_ones(self):
        for leg in legs(86, 200):
            paper = check_calls(self, leg_paper, LEG, leg)
            meeting = second_times(*leg)[0]
            if meeting is None:
                word_told, u, c = paper
                near, far = swept_dots(leg, u)
                self.assertEqual(word_told, "apart")
                self.assertNotEqual(u, (0, 0))
                self.assertTrue(near <= fraction(c) < far)
            else:
                word_told, moment, p, u = paper
                self.assertEqual((word_told, moment), ("first", meeting[0]))
                self.assertTrue(judged_first(leg, fraction(moment), fractions(p), u), (leg, paper))
            self.assertIs(check_calls(self, accepts_leg, LEG + ("value",), (*leg, paper)), True)
            self.assertIs(accepts_free(*leg, paper), False)

    def test_told_ones_bent(self):
        for leg in legs(87, 60):
            for other in bent(leg_paper(*leg)):
                self.assertIs(accepts_leg(*leg, other), False, (leg, other))

    def test_first_papers_of_any_hand(self):
        rng = random.Random(88)
        count = {True: 0, False: 0}
        for leg in legs(89, 120):
            meeting = second_times(*leg)[0]
            for _ in range(12):
                m = rng.choice([fraction(meeting[0]), fraction(meeting[1]), Fraction(1, 2)] if meeting else [0, 1])
                p = rng.choice(leg[1])
                if meeting and rng.randint(0, 3):
                    p = fractions(leg_paper(*leg)[2])
                told = leg_paper(*leg)[3] if meeting else None
                u = rng.choice((None, (rng.randint(-4, 4), rng.randint(-4, 4)), told))
                if u is not None and rng.randint(0, 1):
                    u = (u[0] * BIG ** 2, u[1] * BIG ** 2)
                right = judged_first(leg, Fraction(m), p, u)
                self.assertIs(accepts_leg(*leg, ("first", pair(m), fine(p), u)), right, (leg, m, p, u))
                count[right] += 1
        self.assertGreater(min(count.values()), 50)

    def test_apart_papers_of_any_hand(self):
        rng = random.Random(90)
        count = {True: 0, False: 0}
        for leg in legs(91, 150):
            for _ in range(8):
                u = (rng.randint(-3, 3), rng.randint(-3, 3))
                near, far = swept_dots(leg, u)
                c = rng.choice((near, far, Fraction(near + far, 2), near - Fraction(1, 9), far - Fraction(1, 9)))
                right = u != (0, 0) and near <= c < far
                self.assertIs(accepts_leg(*leg, ("apart", u, pair(c))), right)
                big = (u[0] * BIG ** 2, u[1] * BIG ** 2)
                self.assertIs(accepts_leg(*leg, ("apart", big, pair(Fraction(c) * BIG ** 2))), right)
                right = near <= c <= far and u != (0, 0)
                self.assertIs(accepts_free(*leg, ("free", u, pair(c))), right)
                count[right] += 1
        self.assertGreater(min(count.values()), 50)

    def test_the_first_moment(self):
        leg = (SQUARE, SQUARE, (3, 0), (-4, 0))

        def judged(moment, p, u):
            return accepts_leg(*leg, ("first", moment, p, u))
        p = ((1, 1), (1, 2))
        self.assertIs(judged((1, 2), p, (-1, 0)), True)
        self.assertIs(judged((1, 2), ((1, 1), (1, 1)), (-5, 0)), True)
        self.assertIs(judged((1, 2), p, None), False)
        self.assertIs(judged((1, 2), p, (1, 0)), False)
        self.assertIs(judged((1, 2), p, (0, 0)), False)
        self.assertIs(judged((1, 2), p, (0, 1)), False)
        self.assertIs(judged((1, 2), p, (-1, 1)), False)
        self.assertIs(judged((1, 2), p, (-1, False)), False)
        self.assertIs(judged((1, 2), p, [-1, 0]), False)
        self.assertIs(judged((1, 2), (1, 0), (-1, 0)), False)
        self.assertIs(judged((1, 2), ((2, 1), (0, 1)), (-1, 0)), False)
        self.assertIs(judged((2, 4), p, (-1, 0)), False)
        self.assertIs(judged((3, 4), p, (-1, 0)), False)
        self.assertIs(judged((1, 1), ((0, 1), (1, 2)), (-1, 0)), False)
        self.assertIs(judged((5, 4), ((0, 1), (1, 2)), (-1, 0)), False)
        self.assertIs(judged((0, 1), p, None), False)
        begin = (SQUARE, SQUARE, (1, 0), (-4, 0))
        self.assertIs(accepts_leg(*begin, ("first", (0, 1), p, None)), True)
        self.assertIs(accepts_leg(*begin, ("first", (0, 1), p, (-1, 0))), False)
        self.assertIs(accepts_leg(*begin, ("first", (False, 1), p, None)), False)
        self.assertIs(accepts_leg(*begin, ("first", (0, True), p, None)), False)
        self.assertIs(accepts_leg(*begin, ("apart", (0, 0), (0, 1))), False)
        beyond = (SQUARE, SQUARE, (6, 0), (-4, 0))
        self.assertIs(accepts_leg(*beyond, ("first", (5, 4), p, (-1, 0))), False)

    def test_apart_on_the_whole_leg(self):
        leg = (SQUARE, SQUARE, (3, 0), (0, 7))
        self.assertIs(accepts_leg(*leg, ("apart", (-1, 0), (-3, 1))), True)
        self.assertIs(accepts_leg(*leg, ("apart", (-1, 0), (-3, 2))), True)
        self.assertIs(accepts_leg(*leg, ("apart", (-1, 0), (-1, 1))), False)
        self.assertIs(accepts_leg(*leg, ("apart", (-1, 0), (-4, 1))), False)
        self.assertIs(accepts_leg(*leg, ("apart", (0, 0), (0, 1))), False)
        self.assertIs(accepts_leg(*leg, ("apart", (0, -1), (-8, 1))), False)
        self.assertIs(accepts_leg(*leg, ("apart", (-1, 0), -3)), False)
        self.assertIs(accepts_leg(*leg, ("apart", (-1, 0), (-6, 2))), False)

    def test_any_value(self):
        for value in ODD_THINGS + (
                ("first",), ("apart",), ("first", None, None, None), ("apart", None, None), ("apart", (1, 0), None),
                ("first", (0, 1), (0, 0), None), ("first", (0, 1), None, None), ("free", None, None), ({}, [], ()),
                ("overlaps", (0, 1), ((1, 2), (1, 2))), ([], (0, 1), ((1, 2), (1, 2)), None)):
            self.assertIs(accepts_leg(SQUARE, SQUARE, (0, 0), (9, 0), value), False, value)
            self.assertIs(accepts_leg(SQUARE, SQUARE, (2, 0), (9, 0), value), False, value)


class FreePapers(unittest.TestCase):
    def test_told_ones(self):
        for leg in legs(92, 200):
            mover, still, shift, vector = leg
            paper = check_calls(self, free_paper, LEG, leg)
            self.assertIs(check_calls(self, accepts_free, LEG + ("value",), (*leg, paper)), True)
            self.assertIs(accepts_leg(*leg, paper), False)
            overlap = second_times(*leg)[1]
            if overlap is not None:
                word_told, m, p = paper
                there = shifted(mover, at(shift, vector, fraction(m)))
                self.assertEqual(word_told, "overlaps")
                self.assertTrue(0 <= fraction(m) <= 1)
                self.assertEqual((place(there, fractions(p)), place(still, fractions(p))), ("within", "within"))
            else:
                word_told, u, c = paper
                self.assertEqual(word_told, "free")
                if u is None:
                    self.assertTrue(len(mover) < 3 or len(still) < 3)
                    self.assertIsNone(c)
                else:
                    near, far = swept_dots(leg, u)
                    self.assertTrue(u != (0, 0) and near <= fraction(c) <= far)

    def test_told_ones_bent(self):
        for leg in legs(93, 60):
            for other in bent(free_paper(*leg)):
                self.assertIs(accepts_free(*leg, other), False, (leg, other))

    def test_overlaps_papers_of_any_hand(self):
        rng = random.Random(94)
        count = {True: 0, False: 0}
        for leg in legs(95, 150):
            mover, still, shift, vector = leg
            both_full = len(mover) > 2 and len(still) > 2
            paper = free_paper(*leg)
            for _ in range(6):
                m = rng.choice((Fraction(0), Fraction(1), Fraction(rng.randint(0, 9), 9)))
                p = plus(still[0], (Fraction(1, 2), Fraction(1, 3)))
                if paper[0] == "overlaps":
                    m = rng.choice((m, fraction(paper[1])))
                    p = plus(fractions(paper[2]), (Fraction(rng.randint(-2, 2), 7), Fraction(rng.randint(-2, 2), 9)))
                there = shifted(mover, at(shift, vector, m))
                p = rng.choice((p, p, p, rng.choice(there), rng.choice(still)))
                right = both_full and place(there, p) == "within" and place(still, p) == "within"
                self.assertIs(accepts_free(*leg, ("overlaps", pair(m), fine(p))), right)
                count[right] += 1
        self.assertGreater(min(count.values()), 20)

    def test_no_direction_just_if_one_is_not_full(self):
        for mover, still, shift, vector in legs(96, 100):
            right = len(mover) < 3 or len(still) < 3
            self.assertIs(accepts_free(mover, still, shift, vector, ("free", None, None)), right)
            self.assertIs(accepts_free(mover, still, shift, vector, ("free", None, (0, 1))), False)
            self.assertIs(accepts_free(mover, still, shift, vector, ("free", (1, 0), None)), False)
            self.assertIs(accepts_free(mover, still, shift, vector, ("free", (0, 0), (0, 1))), False)

    def test_free_ones(self):
        leg = (SQUARE, SQUARE, (1, -5), (0, 9))
        self.assertIs(accepts_free(*leg, ("free", (-1, 0), (-1, 1))), True)
        self.assertIs(accepts_free(*leg, ("free", (-3 * BIG ** 2, 0), (-3 * BIG ** 2, 1))), True)
        self.assertIs(accepts_free(*leg, ("free", (1, 0), (1, 1))), False)
        self.assertIs(accepts_free(*leg, ("free", (-1, False), (-1, 1))), False)
        self.assertIs(accepts_free(*leg, ("free", (-1, 0), (-1, True))), False)
        self.assertIs(accepts_free(*leg, ("free", (-1, 0), (-2, 2))), False)
        self.assertIs(accepts_free(*leg, ("free", (-1, 0), (-9, 8))), False)
        self.assertIs(accepts_free(STRETCH, SQUARE, (9, 9), (1, 0), ("free", (-1, 0), (-9, 1))), True)
        self.assertIs(accepts_free(STRETCH, SQUARE, (9, 9), (1, 0), ("free", (-1, 0), (-10, 1))), False)

    def test_any_value(self):
        for value in ODD_THINGS + (
                ("free",), ("overlaps",), ("free", None), ("free", (1, 0), None), ("free", None, None, None),
                ("overlaps", None, None), ("overlaps", (0, 1), (0, 0)), ("overlaps", (3, 2), ((1, 2), (1, 2))),
                ("overlaps", (0, 1), ((1, 2), (1, 2)), None), ("first", (0, 1), ((1, 2), (1, 2)), None),
                ("apart", (1, 0), (0, 1)), ({}, [], ()), ([], (0, 1), ((1, 2), (1, 2)))):
            self.assertIs(accepts_free(SQUARE, SQUARE, (0, 0), (9, 0), value), False, value)
            self.assertIs(accepts_free(SQUARE, SQUARE, (2, 0), (9, 0), value), False, value)

    def test_a_way_from_zero_is_no_overlap_beyond_it(self):
        leg = (SQUARE, SQUARE, (0, 0), (4, 0))
        self.assertIs(accepts_free(*leg, ("overlaps", (0, 1), ((1, 2), (1, 2)))), True)
        self.assertIs(accepts_free(*leg, ("overlaps", (1, 4), ((1, 1), (1, 2)))), False)
        self.assertIs(accepts_free(*leg, ("overlaps", (-1, 8), ((1, 4), (1, 2)))), False)
        self.assertIs(accepts_free(*leg, ("overlaps", (False, 1), ((1, 2), (1, 2)))), False)
        later = (SQUARE, SQUARE, (6, 0), (-4, 0))
        self.assertIs(accepts_free(*later, ("overlaps", (3, 2), ((1, 2), (1, 2)))), False)


class Speed(unittest.TestCase):
    def test_sixty_corners_of_sixty_digits(self):
        mover = cornered(60, BIG // 10 ** 4)
        still = hull([(-y, x) for x, y in cornered(60, BIG // 10 ** 4)])
        begin = time.process_time()
        for shift, vector in (((BIG, 0), (-5 * BIG, 17)), ((BIG, BIG), (BIG, 3)), ((0, 0), (3, 1))):
            leg = (mover, still, shift, vector)
            self.assertIs(accepts_leg(*leg, leg_paper(*leg)), True)
            self.assertIs(accepts_free(*leg, free_paper(*leg)), True)
            self.assertGreaterEqual(len(course_of(*leg)), 2)
        self.assertLess(time.process_time() - begin, 10)


if __name__ == "__main__":
    unittest.main()
