"""What round shapes have in common, and papers of nothing ([5], [0.2] (c))."""

import itertools
import math
import random
import time
import unittest

from gridshapes.commons import accepts_none, common_part, common_point, first_empty, none_paper
from gridshapes.errors import NoShape, TooMany
from gridshapes.rounds import is_fine_shape, moved, walls_of
from tests.reckon import (
    BIG, FLAT, KITE, LEVEL, POINT, SHAPES, SIX, SPOT, SQUARE, STRETCH, UPRIGHT, WEDGE, common, cornered, corners_of,
    cross, fine, hull, random_shape, scaled)
from tests.wrong import ODD_THINGS, WRONG_SHAPES, bent, check_calls, check_wrong, row_of_things

GREAT = ((-BIG, -BIG), (BIG, -BIG), (BIG, BIG), (-BIG, BIG))
SIXTY = cornered(60)
TURNED = hull([(-y, x) for x, y in SIXTY])
CENTRED = tuple((x - SIXTY[30][0] // 2, y - SIXTY[30][1] // 2) for x, y in SIXTY)
CENTRED_TURNED = hull([(-y, x) for x, y in CENTRED])
# Three stretches that meet by twos, and have no point in common.
RING = (((0, 0), (6, 0)), ((5, -1), (2, 5)), ((1, -1), (4, 5)))


def menus(seed, many, size=4):
    rng = random.Random(seed)
    rows = []
    for _ in range(many):
        row = []
        for _ in range(rng.choice((1, 2, 2, 3, 3, 4, 5, 8))):
            shape = rng.choice(SHAPES) if rng.randint(0, 2) == 0 else random_shape(rng, size)
            row.append(shape)
        rows.append(row)
    return rows


def ring_menus(seed, many):
    """Menus in which it often takes three shapes, or three walls, to bar a common point."""
    rng = random.Random(seed)
    rows = []
    for _ in range(many):
        row = [moved(shape, (rng.randint(-1, 1), rng.randint(-1, 1))) for shape in RING]
        row += [scaled(SQUARE, 20, (-9, -9)) for _ in range(rng.randint(0, 2))]
        rng.shuffle(row)
        rows.append(row)
    return rows


def second_first_empty(shapes):
    for many in (2, 3):
        for numbers in itertools.combinations(range(len(shapes)), many):
            if common([shapes[k] for k in numbers]) is None:
                return list(numbers)
    return None


def second_none_paper(shapes):
    """By going through all pairs and threes of walls."""
    numbers = second_first_empty(shapes)
    if numbers is None:
        return None
    rows = [(n, k, u, c[0]) for n in numbers for k, (u, c) in enumerate(walls_of(shapes[n]))]
    for a, b in itertools.combinations(rows, 2):
        if (a[2][0] + b[2][0], a[2][1] + b[2][1]) == (0, 0) and a[3] + b[3] < 0:
            return ("none", ((a[0], a[1], 1), (b[0], b[1], 1)))
    for lot in itertools.combinations(rows, 3):
        weights = [cross(lot[1][2], lot[2][2]), cross(lot[2][2], lot[0][2]), cross(lot[0][2], lot[1][2])]
        if max(weights) < 0:
            weights = [-weight for weight in weights]
        if min(weights) > 0 and sum(weight * row[3] for weight, row in zip(weights, lot)) < 0:
            divisor = math.gcd(*weights)
            return ("none", tuple((row[0], row[1], weight // divisor) for row, weight in zip(lot, weights)))
    return None


def second_judge(shapes, rows):
    places = [row[:2] for row in rows]
    if len(rows) not in (2, 3) or len(set(places)) < len(places):
        return False
    total = [0, 0, 0]
    for shape, wall, weight in rows:
        if not (0 <= shape < len(shapes) and weight > 0 and 0 <= wall < len(walls_of(shapes[shape]))):
            return False
        (x, y), (c, _) = walls_of(shapes[shape])[wall]
        total = [total[0] + weight * x, total[1] + weight * y, total[2] + weight * c]
    return total[:2] == [0, 0] and total[2] < 0


class CommonParts(unittest.TestCase):
    def test_small_ones(self):
        self.assertEqual(common_part([SQUARE]), (
            ((0, 1), (0, 1)), ((1, 1), (0, 1)), ((1, 1), (1, 1)), ((0, 1), (1, 1))))
        self.assertEqual(common_part([SPOT]), (((3, 1), (-2, 1)),))
        self.assertEqual(common_part([STRETCH, STRETCH]), (((0, 1), (0, 1)), ((4, 1), (2, 1))))
        self.assertEqual(common_part([STRETCH, LEVEL]), (((2, 1), (1, 1)),))
        self.assertEqual(common_part([UPRIGHT, WEDGE]), (((1, 1), (0, 1)), ((1, 1), (9, 4))))
        self.assertEqual(common_part([SQUARE, moved(SQUARE, (1, 1))]), (((1, 1), (1, 1)),))
        self.assertEqual(common_part([SQUARE, moved(SQUARE, (1, 0))]), (((1, 1), (0, 1)), ((1, 1), (1, 1))))
        self.assertEqual(common_part([WEDGE, KITE]), (
            ((0, 1), (0, 1)), ((3, 1), (0, 1)), ((12, 7), (12, 7)), ((0, 1), (3, 1))))
        self.assertIsNone(common_part([SQUARE, moved(SQUARE, (2, 0))]))
        self.assertIsNone(common_part(RING))
        self.assertIsNone(common_part([POINT, SPOT]))

    def test_against_corners_and_crossings(self):
        for shapes in menus(60, 250) + ring_menus(61, 40):
            expected = common(shapes)
            told = check_calls(self, common_part, ("shapes",), (shapes,))
            self.assertTrue(is_fine_shape(told))
            self.assertEqual(told, expected and tuple(fine(p) for p in expected), shapes)
            self.assertEqual(common_part(tuple(shapes)), told)
            told_point = check_calls(self, common_point, ("shapes",), (shapes,))
            self.assertEqual(told_point, expected and fine(expected[0]))
            self.assertEqual(corners_of(told), list(expected or ()))

    def test_one_within_the_other_and_the_same_twice(self):
        for shape in SHAPES:
            whole = tuple(fine(p) for p in shape)
            self.assertEqual(common_part([shape]), whole)
            self.assertEqual(common_part([shape] * 8), whole)
            self.assertEqual(common_part([GREAT, shape, GREAT]), whole)
            self.assertEqual(common_part((shape, GREAT)), whole)
            self.assertIsNone(first_empty([shape] * 8))
            self.assertIsNone(none_paper([shape] * 8))

    def test_eight_shapes(self):
        row = [scaled(SQUARE, 9, (k, -k)) for k in range(8)]
        self.assertEqual(common_part(row), (((7, 1), (0, 1)), ((9, 1), (0, 1)), ((9, 1), (2, 1)), ((7, 1), (2, 1))))
        self.assertIsNone(common_part(row[:7] + [moved(SQUARE, (20, 20))]))

    def test_sixty_corners_and_more(self):
        self.assertEqual(len(common_part([SIXTY, SIXTY])), 60)
        both = [CENTRED, CENTRED_TURNED]
        expected = common(both)
        self.assertLessEqual(len(expected), 60)
        self.assertEqual(common_part(both), tuple(fine(p) for p in expected))
        rounder, other = scaled(RIM_60, 10), scaled(RIM_60_TURNED, 10)
        with self.assertRaises(TooMany) as caught:
            common_part([rounder, other])
        self.assertEqual(caught.exception.most, 60)
        self.assertIsNotNone(common_point([rounder, other]))
        self.assertIsNone(first_empty([rounder, other]))
        self.assertIsNone(none_paper([rounder, other]))
        self.assertIsNone(common_part([rounder, other, ((1000000, 0),)]))
        with self.assertRaises(NoShape):
            common_part([rounder, other, 5])

    def test_sixty_digits(self):
        one = ((-BIG, -BIG), (BIG, BIG - 1))
        other = ((BIG, -BIG), (-BIG, BIG))
        told = common_part([one, other, GREAT])
        expected = common([one, other])
        self.assertEqual(told, tuple(fine(p) for p in expected))
        self.assertEqual(common_point([GREAT, ((BIG, BIG),)]), ((BIG, 1), (BIG, 1)))

    def test_wrong(self):
        rows = row_of_things(SQUARE, WRONG_SHAPES, NoShape, 8)
        for function in (common_part, common_point, first_empty, none_paper):
            check_wrong(self, function, ("shapes",), ([SQUARE],), [rows])
        check_wrong(self, accepts_none, ("shapes", "paper"), ([SQUARE], None), [rows])


def rim_sixty():
    """A shape of sixty corners that is nearly a circle, and one turned a little: they cross sixty times and more."""
    sides = [(x, y) for x in range(-9, 10) for y in range(-9, 10) if math.gcd(x, y) == 1]
    upper = sorted([v for v in sides if v[1] > 0 or v == (1, 0)], key=lambda v: math.atan2(v[1], v[0]))
    step = len(upper) / 30
    chosen = [upper[int(k * step)] for k in range(30)]
    lengths = [round(1000 / math.hypot(*v)) for v in chosen]
    row = [(k * x, k * y) for k, (x, y) in zip(lengths, chosen)]
    corners = [(0, 0)]
    for x, y in row + [(-x, -y) for x, y in row]:
        corners.append((corners[-1][0] + x, corners[-1][1] + y))
    middle = corners[30]
    return hull([(2 * x - middle[0], 2 * y - middle[1]) for x, y in corners])


RIM_60 = rim_sixty()
RIM_60_TURNED = hull([(round(x * math.cos(0.05) - y * math.sin(0.05)), round(x * math.sin(0.05) + y * math.cos(0.05)))
                      for x, y in RIM_60])


class FirstEmpty(unittest.TestCase):
    def test_small_ones(self):
        self.assertEqual(first_empty(RING), [0, 1, 2])
        self.assertEqual(first_empty([GREAT, *RING]), [1, 2, 3])
        self.assertEqual(first_empty([*RING, SPOT]), [0, 3])
        self.assertEqual(first_empty([KITE, WEDGE, SPOT, SIX]), [0, 2])
        self.assertIsNone(first_empty([SQUARE]))
        self.assertIsNone(first_empty([SQUARE, WEDGE]))

    def test_against_all_twos_and_threes(self):
        count = {2: 0, 3: 0}
        for shapes in menus(62, 150) + ring_menus(63, 60):
            expected = second_first_empty(shapes)
            told = check_calls(self, first_empty, ("shapes",), (shapes,))
            self.assertEqual(told, expected, shapes)
            self.assertEqual(told is None, common_part(shapes) is not None)
            if told is not None:
                count[len(told)] += 1
        self.assertGreater(min(count.values()), 10)

    def test_speed(self):
        row = [SIXTY, CENTRED, CENTRED_TURNED, TURNED, moved(SIXTY, (1, 0)), moved(TURNED, (0, 1)), CENTRED, GREAT]
        begin = time.process_time()
        first_empty(row)
        common_point(row)
        self.assertLess(time.process_time() - begin, 10)


class NonePapers(unittest.TestCase):
    def test_small_ones(self):
        far = moved(SQUARE, (2, 0))
        self.assertEqual(none_paper([SQUARE, far]), ("none", ((0, 1, 1), (1, 3, 1))))
        self.assertEqual(none_paper([SQUARE, SQUARE, far]), ("none", ((0, 1, 1), (2, 3, 1))))
        self.assertEqual(none_paper([POINT, SPOT]), ("none", ((0, 0, 1), (1, 2, 1))))
        self.assertIsNone(none_paper([SQUARE]))
        self.assertIsNone(none_paper([SQUARE, WEDGE]))
        # No two walls are opposite to each other.
        self.assertEqual(none_paper([((0, 0), (6, 1), (0, 5)), ((8, 2), (9, 5), (6, 6))]),
                         second_none_paper([((0, 0), (6, 1), (0, 5)), ((8, 2), (9, 5), (6, 6))]))

    def test_against_all_walls(self):
        count = {2: 0, 3: 0}
        for shapes in menus(64, 120, 5) + ring_menus(65, 60):
            expected = second_none_paper(shapes)
            told = check_calls(self, none_paper, ("shapes",), (shapes,))
            self.assertEqual(told, expected, shapes)
            self.assertEqual(told is None, common_part(shapes) is not None)
            if told is not None:
                count[len(told[1])] += 1
                self.assertIs(check_calls(self, accepts_none, ("shapes", "paper"), (shapes, told)), True)
        self.assertGreater(min(count.values()), 5)

    def test_hundred_walls_and_more(self):
        fifty = cornered(50)
        far = moved(fifty, (10 ** 6, 0))
        told = none_paper([fifty, far])
        self.assertEqual(told, second_none_paper([fifty, far]))
        self.assertIs(accepts_none([fifty, far], told), True)
        many = moved(cornered(51), (10 ** 7, 0))
        with self.assertRaises(TooMany) as caught:
            none_paper([fifty, many])
        self.assertEqual(caught.exception.most, 100)
        with self.assertRaises(NoShape):
            none_paper([fifty, many, None])
        # Only the walls of those that are told count.
        self.assertEqual(none_paper([POINT, SPOT, SIXTY, TURNED]), ("none", ((0, 0, 1), (1, 2, 1))))
        self.assertIsNone(none_paper([SIXTY, SIXTY]))

    def test_told_ones_bent(self):
        for shapes in ([POINT, SPOT], RING, [SQUARE, WEDGE, moved(FLAT, (20, 1))]):
            told = none_paper(shapes)
            self.assertIs(accepts_none(shapes, told), True)
            for paper in bent(told):
                self.assertIs(accepts_none(shapes, paper), False, (shapes, paper))

    def test_papers_of_any_hand(self):
        rng = random.Random(66)
        count = {True: 0, False: 0}
        for shapes in menus(67, 150) + ring_menus(68, 40):
            told = none_paper(shapes)
            for _ in range(25):
                rows = []
                for _ in range(rng.randint(1, 4)):
                    shape = rng.randint(-1, len(shapes))
                    rows.append((shape, rng.randint(-1, 4), rng.choice((1, 1, 1, 2, 3, 0, -1))))
                if told is not None and rng.randint(0, 1):
                    rows = list(told[1])
                    k = rng.randrange(len(rows))
                    times = rng.choice((1, 1, 2, BIG ** 3))
                    rows = [(a, b, times * c) for a, b, c in rows]
                    if rng.randint(0, 1):
                        rows[k] = (rows[k][0], rows[k][1] + rng.randint(-1, 1), rows[k][2] + rng.randint(-1, 1))
                    rng.shuffle(rows)
                right = second_judge(shapes, rows)
                self.assertIs(accepts_none(shapes, ("none", tuple(rows))), right, (shapes, rows))
                self.assertIs(accepts_none(shapes, ("none", rows)), False)
                count[right] += 1
        self.assertGreater(min(count.values()), 100)

    def test_no_wall_twice(self):
        far = moved(SQUARE, (2, 0))
        shapes = [SQUARE, far, far]
        self.assertIs(accepts_none(shapes, ("none", ((0, 1, 1), (1, 3, 1)))), True)
        self.assertIs(accepts_none(shapes, ("none", ((1, 3, 1), (0, 1, 1)))), True)
        self.assertIs(accepts_none(shapes, ("none", ((2, 3, 5), (0, 1, 5)))), True)
        self.assertIs(accepts_none(shapes, ("none", ((0, 1, 2), (1, 3, 1), (1, 3, 1)))), False)
        self.assertIs(accepts_none(shapes, ("none", ((0, 1, 2), (1, 3, 1), (2, 3, 1)))), True)
        self.assertIs(accepts_none(shapes, ("none", ((0, 1, 1), (0, 3, 1)))), False)
        self.assertIs(accepts_none(shapes, ("none", ((0, 1, 1), (-1, 3, 1)))), False)
        self.assertIs(accepts_none(shapes, ("none", ((0, 1, 1), (1, -1, 1)))), False)
        self.assertIs(accepts_none(shapes, ("none", ((0, 1, 1), (True, 3, 1)))), False)
        self.assertIs(accepts_none(shapes, ("none", ((False, 1, 1), (1, 3, 1)))), False)
        self.assertIs(accepts_none(shapes, ("none", ((0, 1, True), (1, 3, True)))), False)
        self.assertIs(accepts_none([SQUARE, moved(SQUARE, (1, 0))], ("none", ((0, 1, 1), (1, 3, 1)))), False)
        self.assertIs(accepts_none([SQUARE, SQUARE], ("none", ((0, 0, -1), (1, 0, 1)))), False)

    def test_no_more_than_three_rows(self):
        far = moved(SQUARE, (2, 0))
        shapes = [SQUARE, far, far, far]
        rows = ((0, 1, 3), (1, 3, 1), (2, 3, 1), (3, 3, 1))
        self.assertIs(accepts_none(shapes, ("none", rows)), False)
        self.assertIs(accepts_none(shapes, ("none", ((0, 1, 2),) + rows[1:3])), True)
        self.assertIs(accepts_none(shapes, ("none", rows[:1])), False)

    def test_any_value(self):
        for paper in ODD_THINGS + (
                ("none",), ("none", None), ("none", ()), ("none", ((0, 1, 1),)), ("none", (None, None)),
                ("none", ([], {})), ("none", ("abc", "abc")), ("none", ((0, 1, 1), (1, 3, 1)), None),
                ("none", ((0, 1, 1), (1, 3, 1), (0, 0, 0))), ("none", ((0, 1), (1, 3))), ({}, ()),
                ("nothing", ((0, 1, 1), (1, 3, 1))), ("none", {0: 1, 1: 2}), ("none", ((0, None, 1), (1, 3, 1)))):
            self.assertIs(accepts_none([SQUARE, moved(SQUARE, (2, 0))], paper), False, paper)
            self.assertIs(accepts_none([SQUARE], paper), False, paper)


if __name__ == "__main__":
    unittest.main()
