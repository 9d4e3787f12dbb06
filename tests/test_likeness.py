"""Grid maps, like shapes, their forms, and the papers of likeness ([14], [0.2] (i))."""

import itertools
import math
import random
import time
import unittest

from gridshapes.areas import core_of, rim_of, twice_area
from gridshapes.errors import NoCount, NoMap, NoPoint, NoShape, NoVector
from gridshapes.likeness import (
    accepts_like, all_maps, are_like, is_grid_map, like_map, like_paper, likeness_form, map_back, map_behind,
    map_of_frames, map_to_form, own_maps, point_led, shape_led, upright_image, vector_led)
from gridshapes.rounds import is_round
from gridshapes.stands import stand_of
from gridshapes.sums import mixed_of
from tests.gridmaps import (
    GREAT_MAP, MAPS, OVER, SAME, SLANT, TURNED, WRONG_MAPS, is_grid, led, led_shape, random_map, second_maps, solved)
from tests.reckon import (
    BIG, FULL_SHAPES, GREAT, KITE, LEVEL, POINT, SHAPES, SPOT, SQUARE, STRETCH, UPRIGHT, WEDGE, cornered, hull, less,
    pair,
    plus, random_full, random_shape, shifted)
from tests.wrong import (
    ODD_THINGS, WRONG_POINTS, WRONG_SHAPES, WRONG_VECTORS, bent, check_calls, check_wrong, rows_of)

BOTH = ("one", "other")
MAP_ROWS = rows_of(WRONG_MAPS, NoMap)
SHAPE_ROWS = rows_of(WRONG_SHAPES, NoShape)
FULL_ROWS = rows_of(WRONG_SHAPES + (POINT, SPOT, STRETCH, LEVEL), NoShape)
TURN_ROWS = rows_of((None, True, False, 0, 2, -2, "1", 1.0, (1,), [1]), NoCount)
# Of one area, but not of one rim.
FLAT_ONE, SQUARE_ONE = ((0, 0), (3, 0), (3, 4), (0, 4)), ((0, 0), (6, 0), (6, 2), (0, 2))
# Of one area and one rim, too.
UNLIKE = (((0, 0), (1, 0), (2, 7)), ((0, 0), (1, 0), (3, 7)))
BENT_UNLIKE = (((0, -1), (2, -1), (0, 2), (-1, 0)), ((3, -2), (2, -1), (-3, 3), (-1, 0)))


def corner_rows(many):
    return rows_of((None, True, False, many, -1, "0", 0.0, (0,), [0], {}, 10 ** 70), NoCount)


class Maps(unittest.TestCase):
    def test_is_grid_map(self):
        rng = random.Random(800)
        for grid in MAPS + (GREAT_MAP,) + tuple(random_map(rng) for _ in range(50)):
            self.assertIs(check_calls(self, is_grid_map, ("value",), (grid,)), True)
            a, b, c, d, e, f = grid
            self.assertIs(is_grid_map((a + 1, b, c, d, e, f)), abs((a + 1) * d - b * c) == 1)
            self.assertIs(is_grid_map((2 * a, 2 * b, c, d, e, f)), False)
        for value in WRONG_MAPS:
            self.assertIs(is_grid_map(value), False, value)
        for value in bent(SLANT):
            self.assertIs(is_grid_map(value), False, value)
        wholes = range(-2, 3)
        for four in itertools.product(wholes, repeat=4):
            self.assertIs(is_grid_map(four + (7, -7)), four[0] * four[3] - four[1] * four[2] in (1, -1))

    def test_what_is_led(self):
        rng = random.Random(801)
        for _ in range(120):
            grid, p = random_map(rng), (rng.randint(-20, 20), rng.randint(-20, 20))
            self.assertEqual(check_calls(self, point_led, ("grid", "point"), (grid, p)), led(grid, p))
            self.assertEqual(check_calls(self, vector_led, ("grid", "vector"), (grid, p)),
                             less(led(grid, p), led(grid, (0, 0))))
            shape = random_shape(rng)
            told = check_calls(self, shape_led, ("grid", "shape"), (grid, shape))
            self.assertEqual(told, led_shape(grid, shape))
            self.assertTrue(is_round(told))
            self.assertEqual((twice_area(told), rim_of(told), core_of(told)),
                             (twice_area(shape), rim_of(shape), core_of(shape)))
        self.assertEqual(vector_led(SLANT, (0, 0)), (0, 0))
        self.assertEqual(point_led(SLANT, (0, 0)), (-7, 9))
        self.assertEqual(point_led(GREAT_MAP, (BIG, -BIG)), led(GREAT_MAP, (BIG, -BIG)))
        self.assertEqual(shape_led(GREAT_MAP, GREAT), led_shape(GREAT_MAP, GREAT))
        self.assertEqual(shape_led(OVER, WEDGE), ((0, -3), (4, 0), (0, 0)))
        self.assertEqual(shape_led((-1, 0, 0, -1, 0, 0), STRETCH), ((-4, -2), (0, 0)))

    def test_stands_and_mixed_stay(self):
        rng = random.Random(802)
        for _ in range(60):
            grid, one, other = random_map(rng, 2), random_shape(rng, 3), random_shape(rng, 3)
            t = (rng.randint(-5, 5), rng.randint(-5, 5))
            moved = (shape_led(grid, one), shape_led(grid, other))
            self.assertEqual(stand_of(*moved, vector_led(grid, t)), stand_of(one, other, t))
            self.assertEqual(mixed_of(*moved), mixed_of(one, other))

    def test_behind_and_back(self):
        rng = random.Random(803)
        for _ in range(120):
            one, other, p = random_map(rng), random_map(rng), (rng.randint(-20, 20), rng.randint(-20, 20))
            both = check_calls(self, map_behind, ("grid", "other"), (one, other))
            self.assertTrue(is_grid_map(both))
            self.assertEqual(led(both, p), led(other, led(one, p)))
            back = check_calls(self, map_back, ("grid",), (one,))
            self.assertTrue(is_grid_map(back))
            self.assertEqual(led(back, led(one, p)), p)
            self.assertEqual(map_behind(one, back), SAME)
            self.assertEqual(map_back(back), one)
        self.assertEqual(map_behind(GREAT_MAP, map_back(GREAT_MAP)), SAME)
        self.assertEqual(map_behind(OVER, TURNED), (0, 1, 1, 0, 2, -5))

    def test_wrong(self):
        check_wrong(self, point_led, ("grid", "point"), (SAME, (0, 0)), [MAP_ROWS, rows_of(WRONG_POINTS, NoPoint)])
        check_wrong(self, vector_led, ("grid", "vector"), (SAME, (0, 0)), [MAP_ROWS, rows_of(WRONG_VECTORS, NoVector)])
        check_wrong(self, shape_led, ("grid", "shape"), (SAME, SQUARE), [MAP_ROWS, SHAPE_ROWS])
        check_wrong(self, map_behind, ("grid", "other"), (SAME, OVER), [MAP_ROWS, MAP_ROWS])
        check_wrong(self, map_back, ("grid",), (SAME,), [MAP_ROWS])


class Frames(unittest.TestCase):
    names = ("shape", "j", "other", "n", "turn")

    def frame(self, shape, j, turn):
        ahead, before = shape[(j + 1) % len(shape)], shape[j - 1]
        return (shape[j], ahead, before) if turn == 1 else (shape[j], before, ahead)

    def test_against_three_points(self):
        rng = random.Random(810)
        for _ in range(80):
            one, other = random_full(rng), random_full(rng)
            j, n, turn = rng.randrange(len(one)), rng.randrange(len(other)), rng.choice((1, -1))
            told = check_calls(self, map_of_frames, self.names, (one, j, other, n, turn))
            expected = solved(self.frame(one, j, 1), self.frame(other, n, turn))
            self.assertEqual(told, tuple(pair(part) for part in expected))
        self.assertEqual(map_of_frames(SQUARE, 0, SQUARE, 0, 1), ((1, 1), (0, 1), (0, 1), (1, 1), (0, 1), (0, 1)))
        self.assertEqual(map_of_frames(SQUARE, 0, SQUARE, 0, -1), ((0, 1), (1, 1), (1, 1), (0, 1), (0, 1), (0, 1)))
        self.assertEqual(map_of_frames(WEDGE, 0, SQUARE, 1, 1), ((0, 1), (-1, 3), (1, 4), (0, 1), (1, 1), (0, 1)))
        great = map_of_frames(GREAT, 3, WEDGE, 2, -1)
        self.assertEqual(great, tuple(pair(part) for part in solved(self.frame(GREAT, 3, 1), self.frame(WEDGE, 2, -1))))

    def test_wrong(self):
        check_wrong(self, map_of_frames, self.names, (WEDGE, 0, SQUARE, 3, -1),
                    [FULL_ROWS, corner_rows(3), FULL_ROWS, corner_rows(4), TURN_ROWS])


def trials(seed, many):
    """Pairs of full shapes, many of them like."""
    rng = random.Random(seed)
    for k in range(many):
        one = rng.choice(FULL_SHAPES + (FLAT_ONE,)) if rng.randint(0, 1) else random_full(rng, 3, 5)
        other = led_shape(random_map(rng, 2), one)
        if k % 3 == 0:
            other = random_full(rng, 2, 4)
        elif k % 7 == 1:
            # Moved at one corner, or stretched, so that it is nearly like.
            other = hull([plus(other[0], (1, 0)), *other[1:]])
        yield one, other if len(other) > 2 else one


class Likeness(unittest.TestCase):
    def test_all_maps(self):
        like = unlike = 0
        for one, other in trials(820, 120):
            told = check_calls(self, all_maps, BOTH, (one, other))
            expected = second_maps(one, other)
            self.assertEqual(len(told), len(set(told)))
            self.assertEqual(set(told), expected, (one, other))
            order = []
            for j, turn in itertools.product(range(len(other)), (1, -1)):
                for grid in expected:
                    if led(grid, one[0]) == other[j] and (grid[0] * grid[3] - grid[1] * grid[2]) == turn:
                        order.append(grid)
            self.assertEqual(told, order)
            self.assertIs(check_calls(self, are_like, BOTH, (one, other)), told != [])
            self.assertEqual(check_calls(self, like_map, BOTH, (one, other)), told[0] if told else None)
            like += told != []
            unlike += told == []
        self.assertGreater(min(like, unlike), 30)

    def test_own_maps(self):
        rng = random.Random(821)
        for shape in FULL_SHAPES + tuple(random_full(rng) for _ in range(30)):
            told = check_calls(self, own_maps, ("shape",), (shape,))
            self.assertEqual(told, all_maps(shape, shape))
            self.assertEqual(told[0], SAME)
            self.assertEqual([shape_led(grid, shape) for grid in told], [shape] * len(told))
        self.assertEqual(len(own_maps(SQUARE)), 8)
        self.assertEqual(len(own_maps(((0, 0), (1, 0), (0, 1)))), 6)
        self.assertEqual(len(own_maps(((0, 0), (1, 0), (2, 1), (2, 2), (1, 2), (0, 1)))), 12)
        self.assertEqual(own_maps(((0, 0), (5, 0), (0, 1))), [SAME, (-1, -5, 0, 1, 5, 0)])
        self.assertEqual(own_maps(((0, 0), (5, 0), (1, 4))), [SAME])
        # All corners led to corners are not enough.
        self.assertEqual(all_maps(SQUARE[:3], SQUARE), [])
        self.assertEqual(all_maps(SQUARE, SQUARE[:3]), [])

    def test_points_and_stretches(self):
        self.assertIs(are_like(POINT, SPOT), True)
        self.assertEqual(like_map(POINT, SPOT), (1, 0, 0, 1, 3, -2))
        self.assertEqual(like_map(SPOT, POINT), (1, 0, 0, 1, -3, 2))
        for one, other in itertools.product((POINT, STRETCH, SQUARE), repeat=2):
            self.assertIs(are_like(one, other), one == other)
            self.assertEqual(like_map(one, other) is None, one != other)
        # As many points on the rim, but not as many corners.
        three = ((0, 0), (1, 0), (0, 1))
        for one, other in ((((0, 0), (2, 0)), three), (three, ((0, 0), (2, 0)))):
            self.assertEqual(rim_of(one), rim_of(other))
            self.assertIs(are_like(one, other), False)
            self.assertIsNone(like_map(one, other))
        rng = random.Random(822)
        for _ in range(200):
            one, other = random_stretch(rng), random_stretch(rng)
            if rng.randint(0, 1):
                x, y = less(other[1], other[0])
                k, n = math.gcd(x, y), math.gcd(*less(one[1], one[0]))
                other = (other[0], plus(other[0], (x // k * n, y // k * n)))
            is_like = math.gcd(*less(one[1], one[0])) == math.gcd(*less(other[1], other[0]))
            self.assertIs(check_calls(self, are_like, BOTH, (one, other)), is_like)
            told = check_calls(self, like_map, BOTH, (one, other))
            self.assertEqual(told, second_like(one, other) if is_like else None)
            if is_like:
                self.assertEqual([led(told, p) for p in one], list(other))

    def test_told_maps_of_stretches(self):
        level = ((0, 0), (3, 0))
        self.assertEqual(like_map(level, level), SAME)
        self.assertEqual(like_map(((1, 2), (1, 5)), level), (0, 1, -1, 0, -2, 1))
        self.assertEqual(like_map(level, ((1, 2), (1, 5))), (0, -1, 1, 0, 1, 2))
        # 3 a + 5 b is 1 with a = 2, b = -1.
        self.assertEqual(like_map(((0, 0), (9, 15)), level), (2, -1, -5, 3, 0, 0))
        # -3 a + 5 b is 1 with a = 3, b = 2.
        self.assertEqual(like_map(((0, 0), (-9, 15)), level), (3, 2, -5, -3, 0, 0))
        self.assertEqual(like_map(((0, 0), (-3, 3)), level), (0, 1, -1, -1, 0, 0))
        far = ((-BIG, -BIG), (BIG, BIG - 1))
        told = like_map(far, ((0, 0), (1, 0)))
        self.assertEqual(([led(told, p) for p in far]), [(0, 0), (1, 0)])

    def test_sixty_corners(self):
        begun = time.perf_counter()
        sixty = cornered(60)
        other = shape_led(SLANT, sixty)
        self.assertIn(SLANT, all_maps(sixty, other))
        self.assertEqual(likeness_form(sixty), likeness_form(other))
        self.assertEqual(shape_led(map_to_form(other), other), likeness_form(sixty))
        unlike = list(other)
        x, y = unlike[-1]
        unlike = hull(unlike[:-1] + [(x - 1, y)])
        paper = like_paper(sixty, unlike)
        self.assertIs(accepts_like(sixty, unlike, paper), True)
        self.assertLess(time.perf_counter() - begun, 5)

    def test_wrong(self):
        for function in (are_like, like_map, like_paper):
            check_wrong(self, function, BOTH, (SQUARE, WEDGE), [SHAPE_ROWS, SHAPE_ROWS])
        check_wrong(self, accepts_like, BOTH + ("paper",), (SQUARE, WEDGE, None), [SHAPE_ROWS, SHAPE_ROWS])
        check_wrong(self, all_maps, BOTH, (SQUARE, WEDGE), [FULL_ROWS, FULL_ROWS])
        for function in (own_maps, map_to_form):
            check_wrong(self, function, ("shape",), (SQUARE,), [FULL_ROWS])
        check_wrong(self, likeness_form, ("shape",), (SQUARE,), [SHAPE_ROWS])
        check_wrong(self, upright_image, ("shape", "j", "turn"), (WEDGE, 0, 1), [FULL_ROWS, corner_rows(3), TURN_ROWS])


def random_stretch(rng):
    first = (rng.randint(-9, 9), rng.randint(-9, 9))
    side = (0, 0)
    while not (side[1] > 0 or (side[1] == 0 and side[0] > 0)):
        side = (rng.randint(-9, 9), rng.randint(0, 9))
    return (first, plus(first, side))


def second_level(stretch):
    """By going through all numbers a from 0 on."""
    x, y = less(stretch[1], stretch[0])
    x, y = x // math.gcd(x, y), y // math.gcd(x, y)
    if y == 0:
        a, b = 1, 0
    else:
        a = next(k for k in range(200) if (1 - k * x) % y == 0)
        b = (1 - a * x) // y
    (k, n), c, d = stretch[0], -y, x
    return (a, b, c, d, -a * k - b * n, -c * k - d * n)


def second_like(one, other):
    first, second = second_level(one), second_level(other)
    points = [led(first, p) for p in ((0, 0), (1, 0), (0, 1))]
    # Back by the other one's: what it leads to these points.
    a, b, c, d, e, f = second
    turn = a * d - b * c
    back = []
    for x, y in points:
        x, y = x - e, y - f
        back.append(((d * x - b * y) * turn, (a * y - c * x) * turn))
    (e, f), (a, c), (b, d) = back
    return (a - e, b - e, c - f, d - f, e, f)


class Forms(unittest.TestCase):
    def test_upright_images(self):
        rng = random.Random(830)
        for shape in FULL_SHAPES + tuple(random_full(rng) for _ in range(40)):
            for j, turn in itertools.product(range(len(shape)), (1, -1)):
                told = check_calls(self, upright_image, ("shape", "j", "turn"), (shape, j, turn))
                self.assertIsInstance(told, tuple)
                image, grid = told
                self.assertTrue(is_grid_map(grid))
                self.assertEqual(image, led_shape(grid, shape))
                ahead, before = shape[(j + 1) % len(shape)], shape[j - 1]
                first, second = (ahead, before) if turn == 1 else (before, ahead)
                self.assertEqual(led(grid, shape[j]), (0, 0))
                g, zero = led(grid, first)
                p, q = led(grid, second)
                self.assertTrue(g > 0 and zero == 0 and 0 <= p < q, (shape, j, turn))
                self.assertEqual((image[0], image[1], image[-1]), ((0, 0), (g, 0), (p, q)))

    def test_forms(self):
        rng = random.Random(831)
        for shape in SHAPES + (FLAT_ONE, SQUARE_ONE) + tuple(random_full(rng, 4) for _ in range(30)):
            form = check_calls(self, likeness_form, ("shape",), (shape,))
            self.assertTrue(is_round(form))
            self.assertIs(are_like(shape, form), True)
            self.assertEqual(likeness_form(form), form)
            for _ in range(4):
                self.assertEqual(likeness_form(led_shape(random_map(rng), shape)), form)
            if len(shape) > 2:
                images = [upright_image(shape, j, turn) for j, turn in itertools.product(range(len(shape)), (1, -1))]
                self.assertEqual(form, min(image for image, _ in images))
                grid = check_calls(self, map_to_form, ("shape",), (shape,))
                self.assertEqual(grid, next(grid for image, grid in images if image == form))
                self.assertEqual(led_shape(grid, shape), form)
        for one, other in trials(832, 60):
            self.assertIs(likeness_form(one) == likeness_form(other), are_like(one, other))
        self.assertEqual(likeness_form(SPOT), ((0, 0),))
        self.assertEqual(likeness_form(STRETCH), ((0, 0), (2, 0)))
        self.assertEqual(likeness_form(UPRIGHT), ((0, 0), (5, 0)))
        self.assertEqual(likeness_form(SQUARE), SQUARE)
        self.assertEqual(likeness_form(WEDGE), ((0, 0), (1, 0), (4, 12)))
        self.assertEqual(likeness_form(shifted(WEDGE, (9, 9))), ((0, 0), (1, 0), (4, 12)))


class Papers(unittest.TestCase):
    def second_rows(self, one, other):
        """The dict from each corner and turn to all that may stand in its row."""
        told = {}
        for j, turn in itertools.product(range(len(other)), (1, -1)):
            ahead, before = other[(j + 1) % len(other)], other[j - 1]
            goals = (other[j], ahead, before) if turn == 1 else (other[j], before, ahead)
            grid = solved((one[0], one[1], one[-1]), goals)
            right = [] if is_grid(grid) else ["whole"]
            told[j, turn] = right + [n for n, p in enumerate(one) if led(grid, p) not in other]
        return told

    def test_told_papers(self):
        words = {}
        rng = random.Random(840)
        pairs = list(trials(841, 150)) + [(random_shape(rng), random_shape(rng)) for _ in range(40)]
        pairs += [(FLAT_ONE, SQUARE_ONE), (SQUARE_ONE, FLAT_ONE), (KITE, SQUARE), (LEVEL, UPRIGHT), (POINT, SPOT),
                  (STRETCH, ((0, 0), (0, 2))), (POINT, STRETCH), (STRETCH, SQUARE), UNLIKE, UNLIKE[::-1], BENT_UNLIKE]
        for one, other in pairs:
            paper = check_calls(self, like_paper, BOTH, (one, other))
            if are_like(one, other):
                self.assertEqual(paper, ("like", like_map(one, other)))
            elif len(one) != len(other):
                self.assertEqual(paper, ("corners",))
            elif twice_area(one) != twice_area(other):
                self.assertEqual(paper, ("twice",))
            elif rim_of(one) != rim_of(other):
                self.assertEqual(paper, ("rim",))
            else:
                rows = self.second_rows(one, other)
                self.assertEqual(paper, ("unlike", tuple((j, turn, right[0]) for (j, turn), right in rows.items())))
            self.assertIs(check_calls(self, accepts_like, BOTH + ("paper",), (one, other, paper)), True)
            words[paper[0]] = words.get(paper[0], 0) + 1
        self.assertEqual(sorted(words), ["corners", "like", "rim", "twice", "unlike"])
        whole = [(j, turn, "whole") for j in range(4) for turn in (1, -1)]
        self.assertEqual(like_paper(*BENT_UNLIKE), ("unlike", (whole[0], (0, -1, 2), *whole[2:])))

    def test_words_of_any_writer(self):
        for one, other in list(trials(842, 60)) + [(POINT, STRETCH), (STRETCH, LEVEL), (POINT, SPOT)]:
            unlike = [("corners",)] if len(one) != len(other) else []
            unlike += [("twice",)] if twice_area(one) != twice_area(other) else []
            unlike += [("rim",)] if rim_of(one) != rim_of(other) else []
            for word in ("corners", "twice", "rim", "like", "unlike", "whole"):
                self.assertIs(accepts_like(one, other, (word,)), (word,) in unlike)
                self.assertIs(accepts_like(one, other, (word, None)), False)

    def test_maps_of_any_writer(self):
        rng = random.Random(843)
        for one, other in list(trials(844, 60)) + [(POINT, SPOT), (SPOT, POINT), (STRETCH, led_shape(SLANT, STRETCH))]:
            right = all_maps(one, other) if len(one) > 2 else []
            for grid in right + [random_map(rng, 2, 3) for _ in range(5)] + list(MAPS):
                expected = led_shape(grid, one) == other
                self.assertIs(accepts_like(one, other, ("like", grid)), expected)
                a, b, c, d, e, f = grid
                self.assertIs(accepts_like(one, other, ("like", (a, b, c, d, e + 10 ** 90, f))), False)
        # All maps of stretches and of points are right, not the told ones alone.
        self.assertIs(accepts_like(POINT, SPOT, ("like", (5, 2, 2, 1, 3, -2))), True)
        self.assertIs(accepts_like(((0, 0), (3, 0)), ((0, 0), (3, 0)), ("like", (1, 7, 0, -1, 0, 0))), True)
        self.assertIs(accepts_like(((0, 0), (3, 0)), ((0, 0), (3, 0)), ("like", (-1, 7, 0, -1, 3, 0))), True)

    def test_rows_of_any_writer(self):
        rng = random.Random(845)
        checked = 0
        for one, other in [(SQUARE_ONE, FLAT_ONE), UNLIKE, UNLIKE[::-1], BENT_UNLIKE] + list(trials(846, 40)):
            if len(one) != len(other) or are_like(one, other):
                continue
            rows = self.second_rows(one, other)
            for _ in range(6):
                told = [(j, turn, rng.choice(right)) for (j, turn), right in rows.items()]
                rng.shuffle(told)
                for value in (told, tuple(told)):
                    args = (one, other, ("unlike", value))
                    self.assertIs(check_calls(self, accepts_like, BOTH + ("paper",), args), True)
                self.assertIs(accepts_like(one, other, ("unlike", told[1:])), False)
                self.assertIs(accepts_like(one, other, ("unlike", told + told[:1])), False)
                self.assertIs(accepts_like(one, other, ("unlike", told[1:] + [told[-1]])), False)
                for k, (j, turn, why) in enumerate(told):
                    for other_why in ["whole", *range(-1, len(one) + 1), None, True, False, "", "Whole", 10 ** 80]:
                        value = told[:k] + [(j, turn, other_why)] + told[k + 1:]
                        is_right = other_why in rows[j, turn] and not isinstance(other_why, bool)
                        self.assertIs(accepts_like(one, other, ("unlike", value)), is_right, (one, other, value))
                    for row in ((j, -turn, why), (j, turn), (j, turn, why, 0), [j, turn, why], (j + 99, turn, why),
                                None,
                                (len(other), turn, why), (-1, turn, why),
                                (None, turn, why), (j, None, why), (j, 0, why)):
                        self.assertIs(accepts_like(one, other, ("unlike", told[:k] + [row] + told[k + 1:])), False)
                checked += 1
        self.assertGreater(checked, 20)
        # Shapes with unlike numbers of corners have no such rows.
        for one, other in ((KITE, WEDGE), (WEDGE, KITE), (SQUARE, hull([(0, 0), (9, 0), (0, 7)]))):
            rows = [(j, turn, why) for (j, turn), right in self.second_rows(one, other).items() for why in right[:1]]
            self.assertEqual(len(rows), 2 * len(other))
            self.assertIs(accepts_like(one, other, ("unlike", rows)), False)
        self.assertIs(accepts_like(SQUARE, SQUARE, ("unlike", ())), False)
        self.assertIs(accepts_like(POINT, STRETCH, ("unlike", ())), False)
        self.assertIs(accepts_like(STRETCH, LEVEL, ("unlike", ())), False)

    def test_kinds_of_values(self):
        one, other = BENT_UNLIKE
        for args, paper in (((SQUARE, SQUARE), ("like", (0, -1, 1, 0, 1, 0))),
                            ((POINT, SPOT), ("like", (1, 0, 0, 1, 3, -2))),
                            ((SQUARE, WEDGE), ("corners",)), ((STRETCH, LEVEL), ("rim",))):
            self.assertIs(accepts_like(*args, paper), True)
            for value in bent(paper):
                self.assertIs(accepts_like(*args, value), False, value)
        paper = like_paper(one, other)
        self.assertEqual(paper[0], "unlike")
        for value in bent(paper):
            # The rows may be a list.
            self.assertIs(accepts_like(one, other, value), value == ("unlike", list(paper[1])), value)
        for value in ODD_THINGS + (("like", None), ("like", "ab"), ("unlike", None), ("unlike", {}),
                                   ("unlike", ((),) * 8),
                                   ("unlike", [None] * 8), ("like", list(SAME)), ("unlike", "abcdefgh")):
            self.assertIs(accepts_like(one, other, value), False, value)
            self.assertIs(accepts_like(SQUARE, SQUARE, value), False, value)


if __name__ == "__main__":
    unittest.main()
