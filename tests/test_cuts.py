"""Fine shapes cut by walls and along lines, cells, areas and what is in them ([11], [0.2] (g))."""

import itertools
import random
import unittest
from fractions import Fraction

from gridshapes.cuts import cells_of, cut_along, cut_by, fine_twice, is_in_fine, is_within_fine
from gridshapes.errors import NoCut, NoFine, NoPoint, NoWall, TooMany
from gridshapes.rounds import fine_borders, fine_of, is_fine_shape
from tests.reckon import (
    BIG, FINE_POINT, FINE_STRETCH, FINE_TRIANGLE, GREAT, SHAPES, SIX, SQUARE, WEDGE, cornered, corners_of, cross, dot,
    fine, fraction, hull, less, lines_of, pair, place)
from tests.wrong import (
    ODD_THINGS, WRONG_FINE_POINTS, WRONG_FINES, WRONG_POINTS, bent, check_calls, check_wrong, row_of_things, rows_of)

FINE_ROWS = rows_of(WRONG_FINES, NoFine)
POINT_ROWS = rows_of(WRONG_POINTS, NoPoint)
WALL = ((1, 0), (1, 2))
LINE = ((0, 0), (1, 1))
WRONG_WALLS = ODD_THINGS + (
    ((0, 0), (1, 1)), ((1, 0), 1), ((1, 0), (2, 2)), ((1, 0), (1, 0)), ((1, 0), (1, -1)), ((True, 0), (1, 1)),
    ((1, 0), (True, 1)), ([1, 0], (1, 1)), [(1, 0), (1, 1)], ((1, 0), (1, 1), None), ((1, 0),), ((1, 0, 0), (1, 1)),
    (((1, 1), (0, 1)), (1, 1)), (None, (1, 1)), ((1, 0), None), ((1, 0), [1, 1]))
WRONG_LINES = ODD_THINGS + (
    ((0, 0), (0, 0)), [(0, 0), (1, 0)], ([0, 0], (1, 0)), ((0, 0), (1, 0), (2, 0)), ((0, 0),), ((0, 0), (BIG + 1, 0)),
    ((0, -BIG - 1), (0, 0)), ((0, 0), (1, True)), (((0, 1), (0, 1)), (1, 0)), ((0, 0), ((1, 1), (0, 1))), (0, 1))


def open_rows(good, bads, error):
    """Wrong values of an argument that is a list or tuple of however many things."""
    rows = [(value, error, None) for value in (None, True, 3, "ab", {}, {0: good}, b"a")]
    for bad in bads:
        rows.append(([bad], error, 0))
        rows.append(((good, bad, bads[0]), error, 1))
    return rows


def told(corners):
    """Corners of Fractions as a fine shape."""
    return tuple(fine(p) for p in corners) if corners else None


def random_fine(rng, size=4, most=6):
    points = []
    for _ in range(rng.randint(1, most)):
        points.append(tuple(Fraction(rng.randint(-size * 3, size * 3), rng.choice((1, 1, 2, 3))) for _ in range(2)))
    return told(hull(points))


def random_wall(rng):
    u = (0, 0)
    while u == (0, 0):
        u = (rng.randint(-4, 4), rng.randint(-4, 4))
    return (u, pair(Fraction(rng.randint(-30, 40), rng.choice((1, 1, 2, 3, 7)))))


def lets(wall, p):
    return dot(wall[0], p) <= fraction(wall[1])


def second_cut(shape, walls):
    """The hull of all corners and crossings, of sides and of the walls' lines, that are in all."""
    corners = corners_of(shape)
    if not corners:
        return None
    found = list(corners)
    lines = lines_of(corners)
    for u, c in walls:
        # A point of the wall's line, and a vector along it.
        square = dot(u, u)
        lines.append(((fraction(c) * u[0] / square, fraction(c) * u[1] / square), (u[1], -u[0])))
    for (a, v), (b, w) in itertools.combinations(lines, 2):
        if cross(v, w) != 0:
            m = cross(less(b, a), w) / Fraction(cross(v, w))
            found.append((a[0] + m * v[0], a[1] + m * v[1]))
    kept = [p for p in set(found) if place(tuple(corners), p) != "out" and all(lets(wall, p) for wall in walls)]
    return told(hull(kept)) if kept else None


def line_walls(first, second):
    """The walls of what is left and of what is right of a line, by the cross with it."""
    x, y = less(second, first)
    left = ((y, -x), pair(y * first[0] - x * first[1]))
    return left, ((-y, x), pair(x * first[1] - y * first[0]))


def second_twice(shape):
    corners = corners_of(shape)
    return sum((cross(a, b) for a, b in zip(corners, corners[1:] + corners[:1])), Fraction(0))


def random_line(rng, size=5):
    first = (rng.randint(-size, size), rng.randint(-size, size))
    second = first
    while second == first:
        second = (rng.randint(-size, size), rng.randint(-size, size))
    return (first, second)


class CutBy(unittest.TestCase):
    def test_against_crossings(self):
        rng = random.Random(500)
        kinds = {0: 0, 1: 0, 2: 0, 3: 0}
        for _ in range(220):
            shape = random_fine(rng)
            walls = [random_wall(rng) for _ in range(rng.randint(0, 4))]
            if rng.randint(0, 3) == 0:
                # A wall that only touches the shape.
                u, c = rng.choice(fine_borders(shape))
                walls.append(((-u[0], -u[1]), pair(-fraction(c))))
            expected = second_cut(shape, walls)
            result = check_calls(self, cut_by, ("fine", "walls"), (shape, walls))
            self.assertEqual(result, expected, (shape, walls))
            self.assertEqual(cut_by(shape, tuple(walls)), expected)
            self.assertTrue(is_fine_shape(result))
            kinds[min(3, len(result or ()))] += 1
        self.assertGreater(min(kinds.values()), 5, kinds)

    def test_small_ones(self):
        square = fine_of(SQUARE)
        self.assertEqual(cut_by(square, []), square)
        self.assertEqual(cut_by(square, ()), square)
        self.assertEqual(cut_by(square, [WALL]),
                         (((0, 1), (0, 1)), ((1, 2), (0, 1)), ((1, 2), (1, 1)), ((0, 1), (1, 1))))
        self.assertEqual(cut_by(square, [((1, 0), (0, 1))]), (((0, 1), (0, 1)), ((0, 1), (1, 1))))
        self.assertEqual(cut_by(square, [((1, 1), (0, 1))]), (((0, 1), (0, 1)),))
        self.assertIsNone(cut_by(square, [((1, 1), (-1, 10 ** 30))]))
        self.assertEqual(cut_by(square, [((2, 0), (1, 1))]), cut_by(square, [WALL]))
        self.assertEqual(cut_by(square, [((10 ** 90, 0), (10 ** 90 - 1, 2))])[1],
                         ((10 ** 90 - 1, 2 * 10 ** 90), (0, 1)))
        self.assertEqual(cut_by(square, [WALL] * 300), cut_by(square, [WALL]))

    def test_the_empty_one_a_point_and_a_stretch(self):
        self.assertIsNone(cut_by(None, []))
        self.assertIsNone(cut_by(None, [WALL]))
        self.assertEqual(cut_by(FINE_POINT, [WALL]), FINE_POINT)
        self.assertEqual(cut_by(FINE_POINT, [((3, 0), (-7, 1))]), FINE_POINT)
        self.assertIsNone(cut_by(FINE_POINT, [((3, 0), (-8, 1))]))
        # From (1/2, 1/3) to (-1/2, 1).
        self.assertEqual(cut_by(FINE_STRETCH, [((1, 0), (0, 1))]), (((0, 1), (2, 3)), ((-1, 2), (1, 1))))
        self.assertEqual(cut_by(FINE_STRETCH, [((-1, 0), (0, 1))]), (((1, 2), (1, 3)), ((0, 1), (2, 3))))
        self.assertEqual(cut_by(FINE_STRETCH, [((1, 0), (0, 1)), ((-1, 0), (0, 1))]), (((0, 1), (2, 3)),))
        self.assertEqual(cut_by(FINE_STRETCH, [((1, 0), (-1, 2))]), (((-1, 2), (1, 1)),))
        self.assertIsNone(cut_by(FINE_STRETCH, [((1, 0), (-2, 3))]))

    def test_sixty_corners_and_one_more(self):
        sixty = fine_of(cornered(60, 2))
        corner = cornered(60, 2)[30]
        before, behind = cornered(60, 2)[29], cornered(60, 2)[31]
        # By a line between a corner and its neighbours the corner is cut off.
        u = (behind[1] - before[1], before[0] - behind[0])
        most = pair(Fraction(dot(u, corner) + dot(u, before), 2))
        self.assertGreater(dot(u, corner), dot(u, before))
        with self.assertRaises(TooMany) as caught:
            cut_by(sixty, [(u, most)])
        self.assertEqual(caught.exception.most, 60)
        with self.assertRaises(NoWall):
            cut_by(sixty, [(u, most), None])
        whole = cut_by(sixty, [(u, most), (u, pair(dot(u, before)))])
        self.assertEqual(whole, second_cut(sixty, [(u, pair(dot(u, before)))]))
        self.assertEqual(len(whole), 59)
        less_one = fine_of(cornered(59, 2))
        self.assertEqual(len(cut_by(fine_of(cornered(60)), [((1, 0), (10 ** 9, 1))])), 60)
        self.assertEqual(len(less_one), 59)

    def test_wrong(self):
        good = (fine_of(SQUARE), [WALL])
        check_wrong(self, cut_by, ("fine", "walls"), good, [FINE_ROWS, open_rows(WALL, WRONG_WALLS, NoWall)])
        with self.assertRaises(NoWall):
            cut_by(None, [None])


class CutAlong(unittest.TestCase):
    names = ("fine", "first", "second")

    def test_example(self):
        square = (((0, 1), (0, 1)), ((2, 1), (0, 1)), ((2, 1), (2, 1)), ((0, 1), (2, 1)))
        self.assertEqual([fine_twice(part) for part in cut_along(square, (0, 1), (2, 2))], [(2, 1), (6, 1)])

    def test_against_crossings(self):
        rng = random.Random(510)
        for _ in range(150):
            shape = random_fine(rng)
            first, second = random_line(rng)
            left, right = line_walls(first, second)
            result = check_calls(self, cut_along, self.names, (shape, first, second))
            self.assertEqual(result, (second_cut(shape, [left]), second_cut(shape, [right])))
            self.assertIsInstance(result, tuple)
            self.assertEqual(cut_along(shape, second, first), result[::-1])
            halves = [fraction(fine_twice(part)) for part in result]
            self.assertEqual(sum(halves), fraction(fine_twice(shape)))

    def test_lines_that_only_touch(self):
        square = fine_of(SQUARE)
        self.assertEqual(cut_along(square, (0, 0), (5, 0)), (square, fine_of(((0, 0), (1, 0)))))
        self.assertEqual(cut_along(square, (5, 0), (0, 0)), (fine_of(((0, 0), (1, 0))), square))
        self.assertEqual(cut_along(square, (1, 0), (2, 1)), (square, fine_of(((1, 0),))))
        self.assertEqual(cut_along(square, (0, -1), (1, -1)), (square, None))
        self.assertEqual(cut_along(square, (1, -1), (0, -1)), (None, square))
        self.assertEqual(cut_along(None, (1, -1), (0, -1)), (None, None))
        point = fine_of(((0, 0),))
        self.assertEqual(cut_along(point, (-1, -1), (1, 1)), (point, point))
        stretch = fine_of(((0, 0), (2, 2)))
        self.assertEqual(cut_along(stretch, (-1, -1), (3, 3)), (stretch, stretch))
        self.assertEqual(cut_along(stretch, (0, 1), (1, 0)),
                         ((((1, 2), (1, 2)), ((2, 1), (2, 1))), (((0, 1), (0, 1)), ((1, 2), (1, 2)))))

    def test_sixty_digits(self):
        great = fine_of(GREAT)
        left, right = cut_along(great, (-BIG, -BIG), (BIG, BIG))
        self.assertEqual((left, right), (fine_of((GREAT[0], GREAT[2], GREAT[3])), fine_of(GREAT[:3])))
        self.assertEqual(fine_twice(left), (4 * BIG * BIG, 1))
        left, right = cut_along(great, (BIG - 1, BIG), (BIG, -BIG))
        self.assertEqual(fraction(fine_twice(left)) + fraction(fine_twice(right)), 8 * BIG * BIG)

    def test_too_many(self):
        sixty = cornered(60, 2)
        # Along a line that has just one corner on its right side, of two sides each a bit.
        a, b, c = sixty[29], sixty[30], sixty[31]
        first, second = ((a[0] + b[0]) // 2, (a[1] + b[1]) // 2), ((b[0] + c[0]) // 2, (b[1] + c[1]) // 2)
        for line in ((first, second), (second, first)):
            with self.assertRaises(TooMany) as caught:
                cut_along(fine_of(sixty), *line)
            self.assertEqual(caught.exception.most, 60)
        with self.assertRaises(NoPoint):
            cut_along(fine_of(sixty), first, first)
        left, right = cut_along(fine_of(sixty), a, c)
        self.assertEqual(sorted([len(left), len(right)]), [3, 59])

    def test_wrong(self):
        good = (fine_of(SQUARE), (0, 0), (1, 1))
        check_wrong(self, cut_along, self.names, good,
                    [FINE_ROWS, POINT_ROWS, POINT_ROWS + [((0, 0), NoPoint, (0, 0))]])
        for shape in (None, FINE_POINT, FINE_STRETCH):
            with self.assertRaises(NoPoint) as caught:
                cut_along(shape, (3, 4), (3, 4))
            self.assertEqual(caught.exception.told, (3, 4))


class Cells(unittest.TestCase):
    def second_cells(self, shape, lines):
        cells = [shape]
        for line in lines:
            parts = [second_cut(cell, [wall]) for cell in cells for wall in line_walls(*line)]
            cells = [part for part in parts if part is not None and len(part) > 2]
        return cells

    def test_against_cuts_one_behind_the_other(self):
        rng = random.Random(520)
        many = 0
        for k in range(60):
            shape = random_fine(rng, 4, 8)
            if shape is None or len(shape) < 3:
                continue
            lines = [random_line(rng) for _ in range(k % 7)]
            cells = check_calls(self, cells_of, ("fine", "lines"), (shape, lines))
            self.assertIsInstance(cells, list)
            self.assertEqual(cells, self.second_cells(shape, lines))
            self.assertEqual(cells_of(shape, tuple(lines)), cells)
            self.assertEqual(sum(fraction(fine_twice(cell)) for cell in cells), fraction(fine_twice(shape)))
            many = max(many, len(cells))
        self.assertGreater(many, 8)

    def test_each_point_within_is_within_one(self):
        rng = random.Random(521)
        shape = fine_of(((-4, -4), (5, -3), (6, 4), (-3, 5)))
        lines = [random_line(rng) for _ in range(6)]
        cells = cells_of(shape, lines)
        for _ in range(150):
            p = (Fraction(rng.randint(-500, 600), 97), Fraction(rng.randint(-500, 600), 89))
            if any(cross(less(b, a), less(p, a)) == 0 for a, b in lines) or not is_within_fine(shape, fine(p)):
                continue
            self.assertEqual(sum(is_within_fine(cell, fine(p)) for cell in cells), 1)

    def test_parts_that_are_not_full_are_left_out(self):
        square = fine_of(SQUARE)
        self.assertEqual(cells_of(square, []), [square])
        self.assertEqual(cells_of(square, ()), [square])
        self.assertEqual(cells_of(square, [((0, 0), (1, 0))]), [square])
        self.assertEqual(cells_of(square, [((1, 0), (0, 0))]), [square])
        self.assertEqual(cells_of(square, [((1, 0), (2, 1)), ((0, 5), (1, 5))]), [square])
        self.assertEqual(cells_of(square, [LINE]),
                         [fine_of(((0, 0), (1, 1), (0, 1))), fine_of(((0, 0), (1, 0), (1, 1)))])
        self.assertEqual(cells_of(square, [LINE[::-1]]), cells_of(square, [LINE])[::-1])
        self.assertEqual(cells_of(square, [LINE] * 6), cells_of(square, [LINE]))
        told_anew = cells_of(square, [LINE])
        told_anew.clear()
        self.assertEqual(len(cells_of(square, [LINE])), 2)

    def test_too_many(self):
        sixty = cornered(60, 2)
        a, b, c = sixty[29], sixty[30], sixty[31]
        first, second = ((a[0] + b[0]) // 2, (a[1] + b[1]) // 2), ((b[0] + c[0]) // 2, (b[1] + c[1]) // 2)
        with self.assertRaises(TooMany) as caught:
            cells_of(fine_of(sixty), [(first, second)])
        self.assertEqual(caught.exception.most, 60)
        # Cells of more corners may stand in between.
        cells = cells_of(fine_of(sixty), [(first, second), (sixty[0], sixty[30]), (sixty[10], sixty[40])])
        self.assertEqual(sum(fraction(fine_twice(cell)) for cell in cells), fraction(fine_twice(fine_of(sixty))))
        self.assertLessEqual(max(len(cell) for cell in cells), 60)

    def test_wrong(self):
        good = (fine_of(SQUARE), [LINE])
        fine_rows = FINE_ROWS + [(value, NoFine, value) for value in (None, FINE_POINT, FINE_STRETCH)]
        check_wrong(self, cells_of, ("fine", "lines"), good,
                    [fine_rows, row_of_things(LINE, WRONG_LINES, NoCut, 6, 0)])
        self.assertEqual(len(cells_of(fine_of(SQUARE), [LINE] * 6)), 2)


class Areas(unittest.TestCase):
    def test_twice(self):
        rng = random.Random(530)
        for _ in range(100):
            shape = random_fine(rng)
            result = check_calls(self, fine_twice, ("fine",), (shape,))
            self.assertEqual(result, pair(second_twice(shape)))
        self.assertEqual(fine_twice(None), (0, 1))
        self.assertEqual(fine_twice(FINE_POINT), (0, 1))
        self.assertEqual(fine_twice(FINE_STRETCH), (0, 1))
        self.assertEqual(fine_twice(FINE_TRIANGLE), (25, 12))
        self.assertEqual(fine_twice(fine_of(WEDGE)), (12, 1))

    def test_wrong(self):
        check_wrong(self, fine_twice, ("fine",), (FINE_TRIANGLE,), [FINE_ROWS])


class In(unittest.TestCase):
    names = ("fine", "point")

    def test_against_the_turns(self):
        rng = random.Random(540)
        words = {"in": 0, "within": 0, "rim": 0}
        for _ in range(60):
            shape = random_fine(rng)
            corners = tuple(corners_of(shape))
            points = [tuple(Fraction(rng.randint(-12, 12), rng.choice((1, 2))) for _ in range(2)) for _ in range(8)]
            points += list(corners)
            points += [((a[0] + b[0]) / 2, (a[1] + b[1]) / 2) for a, b in zip(corners, corners[1:])]
            for p in points:
                where = place(corners, p)
                inside = check_calls(self, is_in_fine, self.names, (shape, fine(p)))
                self.assertIs(inside, where != "out")
                within = check_calls(self, is_within_fine, self.names, (shape, fine(p)))
                self.assertIs(within, where == "within")
                words["within" if within else "rim" if inside else "in"] += 1
        self.assertGreater(min(words.values()), 40)

    def test_shapes_that_are_not_full(self):
        for shape in (FINE_POINT, FINE_STRETCH):
            self.assertIs(is_in_fine(shape, shape[0]), True)
            self.assertIs(is_within_fine(shape, shape[0]), False)
        self.assertIs(is_in_fine(FINE_STRETCH, ((0, 1), (2, 3))), True)
        self.assertIs(is_within_fine(FINE_STRETCH, ((0, 1), (2, 3))), False)
        self.assertIs(is_in_fine(None, ((0, 1), (0, 1))), False)
        self.assertIs(is_within_fine(None, ((0, 1), (0, 1))), False)

    def test_round_shapes_as_fine_ones(self):
        for shape in SHAPES:
            for p in itertools.product(range(-3, 5), repeat=2):
                where = place(shape, p)
                self.assertIs(is_in_fine(fine_of(shape), fine(p)), where != "out")
                self.assertIs(is_within_fine(fine_of(shape), fine(p)), where == "within")

    def test_wrong(self):
        good = (fine_of(SIX), ((0, 1), (0, 1)))
        for function in (is_in_fine, is_within_fine):
            check_wrong(self, function, self.names, good, [FINE_ROWS, rows_of(WRONG_FINE_POINTS, NoPoint)])
            for value in bent(good[1]):
                with self.assertRaises(NoPoint):
                    function(None, value)


if __name__ == "__main__":
    unittest.main()
