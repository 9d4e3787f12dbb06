"""Shoves, least pushes and walks, the first free moment, and the papers of shoves ([7], [0.2] (d))."""

import itertools
import random
import time
import unittest
from fractions import Fraction

from gridshapes.errors import NoFloor, NoMenu, NoPoint, NoShape, NoVector
from gridshapes.rounds import moved
from gridshapes.shoves import (
    first_free, least_king_walk, least_push, least_shove, least_walk, shove_along, shove_paper, shows_shove,
    whole_shove)
from tests.reckon import (
    BIG, FULL_SHAPES, GREAT, KITE, LEVEL, POINT, SIX, SPOT, SQUARE, STRETCH, WEDGE, common, cornered, cross,
    differences, dot, fine, fraction, fractions, hull, less, pair, place, plus, random_full, shifted, word)
from tests.wrong import (
    ODD_THINGS, WRONG_DIRECTIONS, WRONG_POINTS, WRONG_SHAPES, bent, check_calls, check_wrong, row_of_things, rows_of)

NAMES = ("one", "other", "shift")
ALONG = NAMES + ("way",)
WRONG_FULL = WRONG_SHAPES + (POINT, SPOT, STRETCH, LEVEL)
SHAPE_ROWS = rows_of(WRONG_FULL, NoShape)
POINT_ROWS = rows_of(WRONG_POINTS, NoPoint)
WAY_ROWS = rows_of(WRONG_DIRECTIONS, NoVector)
NONE = (0, 1)
SIXTY = cornered(60, BIG // 10 ** 4)
TURNED = hull([(-y, x) for x, y in SIXTY])


def trials(seed, many, size=3):
    """Two full shapes, a shift of each kind, by which they mostly overlap, and a way."""
    rng = random.Random(seed)
    for _ in range(many):
        one = rng.choice(FULL_SHAPES) if rng.randint(0, 1) else random_full(rng, size)
        other = rng.choice(FULL_SHAPES) if rng.randint(0, 1) else random_full(rng, size)
        stand = differences(one, other)
        middle = (sum(x for x, _ in stand) // len(stand), sum(y for _, y in stand) // len(stand))
        shift = plus(middle, (rng.randint(-3, 3), rng.randint(-3, 3)))
        if rng.randint(0, 5) == 0:
            shift = rng.choice(stand)
        way = (0, 0)
        while way == (0, 0):
            way = (rng.randint(-4, 4), rng.randint(-4, 4))
        yield one, other, shift, way


def at(shift, way, moment):
    return (shift[0] + Fraction(moment) * way[0], shift[1] + Fraction(moment) * way[1])


def second_leaving(stand, shift, way):
    """The greatest moment at which the line of the way is on the rim, by all crossings with the sides' lines."""
    moments = []
    for a, b in zip(stand, stand[1:] + stand[:1]):
        side = less(b, a)
        speed = cross(way, side)
        if speed != 0:
            moments.append(Fraction(cross(less(a, shift), side), speed))
    return max(m for m in moments if place(stand, at(shift, way, m)) == "rim")


def second_shove(one, other, shift, way):
    if word(one, other, shift) != "overlap":
        return Fraction(0)
    return second_leaving(differences(one, other), shift, way)


class ShoveAlong(unittest.TestCase):
    def test_example(self):
        self.assertEqual(shove_along(SQUARE, WEDGE, (3, 0), (0, 1)), (3, 4))
        self.assertEqual(least_walk(SQUARE, WEDGE, (3, 0)), (1, (1, 0)))

    def test_against_the_stand_shape(self):
        some = 0
        for args in trials(100, 300):
            expected = second_shove(*args)
            self.assertEqual(check_calls(self, shove_along, ALONG, args), pair(expected), args)
            told = check_calls(self, whole_shove, ALONG, args)
            self.assertEqual(told, -(-expected.numerator // expected.denominator))
            some += expected > 0
        self.assertGreater(some, 150)

    def test_behind_it_and_no_less_they_overlap_no_more(self):
        for one, other, shift, way in trials(101, 60):
            m = fraction(shove_along(one, other, shift, way))
            self.assertNotEqual(word(one, other, at(shift, way, m)), "overlap")
            if m > 0:
                self.assertEqual(word(one, other, at(shift, way, m)), "touch")
                for k in range(1, 7):
                    self.assertEqual(word(one, other, at(shift, way, m * (k / Fraction(7)))), "overlap")
                    self.assertNotEqual(word(one, other, at(shift, way, m * (1 + Fraction(k, 3)))), "overlap")
            number = whole_shove(one, other, shift, way)
            self.assertNotEqual(word(one, other, at(shift, way, number)), "overlap")
            for k in range(number):
                self.assertEqual(word(one, other, at(shift, way, k)), "overlap")

    def test_edges(self):
        self.assertEqual(shove_along(SQUARE, SQUARE, (0, 0), (1, 0)), (1, 1))
        self.assertEqual(shove_along(SQUARE, SQUARE, (0, 0), (-3, 0)), (1, 3))
        self.assertEqual(shove_along(SQUARE, SQUARE, (0, 0), (10 * BIG, 0)), (1, 10 * BIG))
        self.assertEqual(shove_along(SQUARE, SQUARE, (0, 0), (1, 1)), (1, 1))
        self.assertEqual(shove_along(SQUARE, SQUARE, (1, 0), (-1, 0)), NONE)
        self.assertEqual(shove_along(SQUARE, SQUARE, (1, 1), (-1, -1)), NONE)
        self.assertEqual(shove_along(SQUARE, SQUARE, (9, 0), (-1, 0)), NONE)
        self.assertEqual(whole_shove(SQUARE, SQUARE, (9, 0), (-1, 0)), 0)
        self.assertEqual(whole_shove(SQUARE, SQUARE, (0, 0), (-3, 0)), 1)
        self.assertEqual(whole_shove(KITE, KITE, (0, 0), (1, 0)), 6)
        self.assertEqual(whole_shove(KITE, KITE, (0, 0), (0, 5)), 2)

    def test_sixty_digits(self):
        self.assertEqual(shove_along(GREAT, GREAT, (0, 0), (1, 0)), (2 * BIG, 1))
        self.assertEqual(whole_shove(GREAT, GREAT, (BIG, BIG), (0, -7)), -(-3 * BIG // 7))
        self.assertEqual(shove_along(GREAT, SQUARE, (BIG, 0), (10 * BIG, 1)), (1, 10 * BIG))
        self.assertEqual(shove_along(GREAT, SQUARE, (0, 0), (0, -1)), (BIG, 1))

    def test_wrong(self):
        good = (SQUARE, WEDGE, (0, 0), (1, 0))
        for function in (shove_along, whole_shove, shove_paper):
            check_wrong(self, function, ALONG, good, [SHAPE_ROWS, SHAPE_ROWS, POINT_ROWS, WAY_ROWS])
        check_wrong(self, shows_shove, ALONG + ("value",), (*good, None),
                    [SHAPE_ROWS, SHAPE_ROWS, POINT_ROWS, WAY_ROWS])


class LeastShove(unittest.TestCase):
    names = NAMES + ("menu",)

    def test_against_each(self):
        rng = random.Random(102)
        ties = 0
        for one, other, shift, way in trials(103, 100):
            menu = [way] + [rng.choice(((1, 0), (0, 1), (-1, 0), (0, -1), (1, 1), (2, 0), (-3, 2)))
                            for _ in range(rng.randint(0, 11))]
            shoves = [second_shove(one, other, shift, v) for v in menu]
            expected = (pair(min(shoves)), [k for k, m in enumerate(shoves) if m == min(shoves)])
            told = check_calls(self, least_shove, self.names, (one, other, shift, menu))
            self.assertEqual(told, expected)
            self.assertEqual(least_shove(one, other, shift, tuple(menu)), expected)
            ties += len(expected[1]) > 1
        self.assertGreater(ties, 20)

    def test_edges(self):
        told = least_shove(SQUARE, SQUARE, (0, 0), [(1, 0), (0, 2), (5, 5), (0, -5), (-5, 1)])
        self.assertEqual(told, ((1, 5), [2, 3, 4]))
        self.assertIsInstance(told[1], list)
        self.assertEqual(least_shove(SQUARE, SQUARE, (1, 0), [(1, 0)] * 12), (NONE, list(range(12))))
        self.assertEqual(least_shove(SQUARE, SQUARE, (0, 0), ((1, 0),)), ((1, 1), [0]))
        self.assertEqual(least_shove(SQUARE, SQUARE, (0, 0), [(1, 0), (10 * BIG, 0)]), ((1, 10 * BIG), [1]))

    def test_wrong(self):
        rows = row_of_things((1, 0), WRONG_DIRECTIONS, NoMenu, 12)
        check_wrong(self, least_shove, self.names, (SQUARE, WEDGE, (0, 0), [(1, 0)]),
                    [SHAPE_ROWS, SHAPE_ROWS, POINT_ROWS, rows])


def second_push(one, other, shift):
    """By the nearest points of all sides of the stand shape."""
    stand = differences(one, other)
    if place(stand, shift) != "within":
        return ((0, 1), [])
    ways = []
    for a, b in zip(stand, stand[1:] + stand[:1]):
        side = less(b, a)
        m = Fraction(dot(less(shift, a), side), dot(side, side))
        m = min(max(m, 0), 1)
        ways.append(less((a[0] + m * side[0], a[1] + m * side[1]), shift))
    least = min(dot(way, way) for way in ways)
    return (pair(least), [fine(way) for way in ways if dot(way, way) == least])


def second_walk(one, other, shift, length, ways):
    """By going through all that so many steps lead to."""
    stand = differences(one, other)
    number = 0
    while True:
        around = range(-number, number + 1)
        ends = [(x, y) for x in around for y in around if length(x, y) <= number]
        if any(place(stand, plus(shift, end)) != "within" for end in ends):
            break
        number += 1
    if number == 0:
        return (0, None)
    doing = [v for v in ways if place(stand, at(shift, v, number)) != "within"]
    return (number, doing[0])


class LeastPushes(unittest.TestCase):
    def test_against_the_nearest_points(self):
        several = 0
        for one, other, shift, _ in trials(104, 250):
            told = check_calls(self, least_push, NAMES, (one, other, shift))
            self.assertEqual(told, second_push(one, other, shift), (one, other, shift))
            self.assertIsInstance(told[1], list)
            several += len(told[1]) > 1
            for push in told[1]:
                self.assertEqual(word(one, other, plus(shift, fractions(push))), "touch")
        self.assertGreater(several, 4)

    def test_edges(self):
        self.assertEqual(least_push(SQUARE, SQUARE, (0, 0)), ((1, 1), [
            ((0, 1), (-1, 1)), ((1, 1), (0, 1)), ((0, 1), (1, 1)), ((-1, 1), (0, 1))]))
        self.assertEqual(least_push(SQUARE, SQUARE, (1, 0)), (NONE, []))
        self.assertEqual(least_push(SQUARE, SQUARE, (7, 0)), (NONE, []))
        self.assertEqual(least_push(SQUARE, WEDGE, (1, 1)), ((1, 1), [((3, 5), (4, 5))]))
        self.assertEqual(least_push(GREAT, GREAT, (BIG, 1)), ((BIG ** 2, 1), [((BIG, 1), (0, 1))]))

    def test_wrong(self):
        for function in (least_push, least_walk, least_king_walk):
            check_wrong(self, function, NAMES, (SQUARE, WEDGE, (0, 0)), [SHAPE_ROWS, SHAPE_ROWS, POINT_ROWS])


class LeastWalks(unittest.TestCase):
    steps = ((1, 0), (0, 1), (-1, 0), (0, -1))
    slanted = ((1, 1), (-1, 1), (-1, -1), (1, -1))

    def test_against_all_walks(self):
        seen = set()
        for one, other, shift, _ in trials(105, 120, 2):
            args = (one, other, shift)
            told = check_calls(self, least_walk, NAMES, args)
            self.assertEqual(told, second_walk(*args, lambda x, y: abs(x) + abs(y), self.steps), args)
            seen.add(told[1])
            told = check_calls(self, least_king_walk, NAMES, args)
            self.assertEqual(told, second_walk(*args, lambda x, y: max(abs(x), abs(y)), self.slanted), args)
            seen.add(told[1])
        self.assertEqual(len(seen), 9)

    def test_edges(self):
        self.assertEqual(least_walk(SQUARE, SQUARE, (0, 0)), (1, (1, 0)))
        self.assertEqual(least_king_walk(SQUARE, SQUARE, (0, 0)), (1, (1, 1)))
        self.assertEqual(least_walk(SQUARE, SQUARE, (0, 1)), (0, None))
        self.assertEqual(least_king_walk(SQUARE, SQUARE, (5, 5)), (0, None))
        big = ((-4, -4), (4, -4), (4, 4), (-4, 4))
        self.assertEqual(least_walk(SQUARE, big, (0, 0)), (4, (1, 0)))
        self.assertEqual(least_walk(SQUARE, big, (-1, 2)), (2, (0, 1)))
        self.assertEqual(least_walk(SQUARE, big, (-3, 0)), (2, (-1, 0)))
        self.assertEqual(least_walk(SQUARE, big, (0, -3)), (2, (0, -1)))
        self.assertEqual(least_king_walk(SQUARE, big, (-2, 2)), (2, (1, 1)))
        self.assertEqual(least_king_walk(SQUARE, big, (-3, 0)), (2, (-1, 1)))
        self.assertEqual(least_king_walk(SQUARE, big, (-3, -3)), (2, (-1, 1)))
        diamond = ((0, -4), (4, 0), (0, 4), (-4, 0))
        self.assertEqual(least_king_walk(SQUARE, diamond, (-2, -2)), (1, (-1, -1)))
        self.assertEqual(least_king_walk(SQUARE, diamond, (2, -2)), (1, (1, -1)))
        self.assertEqual(least_walk(GREAT, GREAT, (0, BIG)), (BIG, (0, 1)))
        self.assertEqual(least_king_walk(GREAT, GREAT, (1, 0)), (2 * BIG - 1, (1, 1)))


def second_first_free(one, others, shift, way):
    """The chain, step by step, by the words alone."""
    chain = []
    m = Fraction(0)
    while True:
        hit = [k for k, other in enumerate(others) if word(one, other, at(shift, way, m)) == "overlap"]
        if not hit:
            return (pair(m), chain)
        m = second_leaving(differences(one, others[hit[0]]), shift, way)
        chain.append(hit[0])


class FirstFree(unittest.TestCase):
    names = ("one", "others", "shift", "way")

    def test_against_the_words(self):
        rng = random.Random(106)
        lengths = set()
        for one, other, shift, way in trials(107, 70):
            others = [other] + [moved(random_full(rng, 3), (rng.randint(-6, 6), rng.randint(-6, 6)))
                                for _ in range(rng.randint(0, 7))]
            rng.shuffle(others)
            told = check_calls(self, first_free, self.names, (one, others, shift, way))
            self.assertEqual(told, second_first_free(one, others, shift, way))
            self.assertIsInstance(told[1], list)
            self.assertEqual(first_free(one, tuple(others), shift, way), told)
            lengths.add(len(told[1]))
        self.assertGreaterEqual(len(lengths), 4)

    def test_the_least_moment(self):
        row = [moved(SQUARE, (k, 0)) for k in (3, 0, 2, 1)]
        self.assertEqual(first_free(SQUARE, row, (0, 0), (1, 0)), ((4, 1), [1, 3, 2, 0]))
        self.assertEqual(first_free(((0, 0), (2, 0), (2, 1), (0, 1)), row, (0, 0), (1, 0)), ((4, 1), [1, 2, 0]))
        row = [moved(KITE, (5 * k, 0)) for k in range(8)]
        self.assertEqual(first_free(KITE, row, (0, 0), (1, 0)), ((41, 1), list(range(8))))
        self.assertEqual(first_free(KITE, row[::-1], (0, 0), (2, 0)), ((41, 2), [6, 4, 2, 0]))

    def test_edges(self):
        self.assertEqual(first_free(SQUARE, [], (0, 0), (1, 0)), (NONE, []))
        self.assertEqual(first_free(SQUARE, (), (0, 0), (1, 0)), (NONE, []))
        self.assertEqual(first_free(SQUARE, [SQUARE], (1, 0), (-1, 0)), (NONE, []))
        self.assertEqual(first_free(SQUARE, [SQUARE] * 8, (0, 0), (0, -1)), ((1, 1), [0]))
        self.assertEqual(first_free(SQUARE, [moved(SQUARE, (1, 0)), WEDGE], (0, 0), (1, 0)), ((4, 1), [1]))
        self.assertEqual(first_free(GREAT, [GREAT, GREAT], (BIG, 0), (-1, 0)), ((3 * BIG, 1), [0]))

    def test_wrong(self):
        rows = row_of_things(SQUARE, WRONG_FULL, NoFloor, 8, 0)
        check_wrong(self, first_free, self.names, (SQUARE, [WEDGE], (0, 0), (1, 0)),
                    [SHAPE_ROWS, rows, POINT_ROWS, WAY_ROWS])


def judged(one, other, shift, way, m, q, p, line):
    """Whether all that a shove paper says is so; m, q, p of Fractions."""
    near, there = shifted(one, shift), shifted(one, at(shift, way, m))
    if m < 0 or place(near, q) != "within" or place(other, q) != "within":
        return False
    if place(there, p) == "out" or place(other, p) == "out":
        return False
    u, c = line
    ours, theirs = [dot(u, x) for x in there], [dot(u, x) for x in other]
    return u != (0, 0) and (max(theirs) <= c <= min(ours) or max(ours) <= c <= min(theirs))


class ShovePapers(unittest.TestCase):
    def test_told_ones(self):
        papers = 0
        for args in trials(108, 200):
            paper = check_calls(self, shove_paper, ALONG, args)
            if word(*args[:3]) != "overlap":
                self.assertIsNone(paper)
                self.assertIs(shows_shove(*args, paper), False)
                continue
            papers += 1
            m, q, p, (u, c) = paper
            self.assertEqual(m, pair(second_shove(*args)))
            self.assertTrue(judged(*args, fraction(m), fractions(q), fractions(p), (u, fraction(c))), (args, paper))
            self.assertIs(check_calls(self, shows_shove, ALONG + ("value",), (*args, paper)), True)
        self.assertGreater(papers, 100)

    def test_told_ones_bent(self):
        for args in trials(109, 40):
            paper = shove_paper(*args)
            for value in bent(paper):
                self.assertIs(shows_shove(*args, value), False, (args, value))

    def test_papers_of_any_hand(self):
        rng = random.Random(110)
        count = {True: 0, False: 0}
        for args in trials(111, 50):
            one, other, shift, way = args
            told = shove_paper(*args)
            near = common([shifted(one, shift), other])
            for _ in range(10):
                m = second_shove(*args) if rng.randint(0, 4) else Fraction(rng.randint(-2, 6), rng.randint(1, 3))
                u = (rng.randint(-3, 3), rng.randint(-3, 3))
                if told is not None and rng.randint(0, 3):
                    u = told[3][0]
                    if rng.randint(0, 1):
                        u = (-u[0], -u[1])
                u = tuple(rng.choice((1, 1, BIG ** 2)) * k for k in u)
                there = shifted(one, at(shift, way, m))
                part = common([there, other])
                p = rng.choice(part) if part and rng.randint(0, 5) else rng.choice(other)
                q = rng.choice(other)
                if near:
                    q = tuple(sum(c[k] for c in near) / len(near) for k in (0, 1))
                    if rng.randint(0, 5) == 0:
                        q = rng.choice(near)
                c = rng.choice((max, min))(dot(u, x) for x in rng.choice((there, other)))
                right = judged(*args, m, q, p, (u, c))
                value = (pair(m), fine(q), fine(p), (u, pair(c)))
                self.assertIs(shows_shove(*args, value), right, (args, value))
                if right:
                    self.assertEqual(m, second_shove(*args))
                count[right] += 1
        self.assertGreater(min(count.values()), 30)

    def test_lines_to_both_sides(self):
        args = (SQUARE, SQUARE, (0, 0), (1, 0))
        q, p = ((1, 2), (1, 3)), ((1, 1), (1, 2))
        for line, right in (
                (((1, 0), (1, 1)), True), (((-1, 0), (-1, 1)), True), (((5 * BIG ** 2, 0), (5 * BIG ** 2, 1)), True),
                (((1, 0), (2, 1)), False), (((1, 0), (2, 2)), False), (((0, 0), (0, 1)), False),
                (((0, 1), (1, 1)), False), (((1, False), (1, 1)), False), ([(1, 0), (1, 1)], False),
                (((1, 0), 1), False), (((1, 0), (1, 1), None), False), (None, False), (((1, 0),), False)):
            self.assertIs(shows_shove(*args, ((1, 1), q, p, line)), right, line)
        line = ((1, 0), (1, 1))
        for value in (((2, 1), q, p, line), ((-1, 1), q, ((0, 1), (1, 2)), ((1, 0), (0, 1))), ((1, 1), p, p, line),
                      ((1, 1), q, q, line), ((1, 1), q, (1, 0), line), ((1, 1), (0, 0), p, line), (1, q, p, line),
                      ((True, 1), q, p, line), ((2, 2), q, p, line), [(1, 1), q, p, line], ((1, 1), q, p)):
            self.assertIs(shows_shove(*args, value), False, value)
        self.assertIs(shows_shove(SQUARE, SQUARE, (0, 0), (-1, 0), (
            (1, 1), q, ((0, 1), (1, 2)), ((1, 0), (0, 1)))), True)
        self.assertIs(shows_shove(SQUARE, SQUARE, (1, 0), (1, 0), ((0, 1), p, p, line)), False)

    def test_any_value(self):
        for value in ODD_THINGS + ((None,) * 4, ((0, 1), None, None, None), ("shove", (1, 1), None, None), ((),) * 4):
            self.assertIs(shows_shove(SQUARE, SQUARE, (0, 0), (1, 0), value), False, value)
            self.assertIs(shows_shove(SQUARE, SQUARE, (5, 0), (1, 0), value), False, value)


class Speed(unittest.TestCase):
    def test_sixty_corners_of_sixty_digits(self):
        begin = time.process_time()
        middle = (TURNED[30][0] // 2 - SIXTY[30][0] // 2, TURNED[30][1] // 2 - SIXTY[30][1] // 2)
        args = (SIXTY, TURNED, middle, (3, 1))
        self.assertIs(shows_shove(*args, shove_paper(*args)), True)
        self.assertEqual(shove_along(*args), shove_paper(*args)[0])
        square, pushes = least_push(*args[:3])
        self.assertGreater(square[0], BIG)
        self.assertEqual(len(pushes), len(set(pushes)))
        self.assertGreater(least_walk(*args[:3])[0], least_king_walk(*args[:3])[0] // 2)
        others = [moved(TURNED, (0, 0))] * 8
        self.assertEqual(first_free(SIXTY, others, middle, (3, 1)), (shove_along(*args), [0]))
        self.assertLess(time.process_time() - begin, 10)

    def test_six_by_six(self):
        for a, b in itertools.product((SIX, KITE, WEDGE), repeat=2):
            self.assertEqual(least_push(a, b, (0, 0)), second_push(a, b, (0, 0)))


if __name__ == "__main__":
    unittest.main()
