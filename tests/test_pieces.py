"""Pieces of simple shapes: partings, ears, diagonals and round pieces ([11], [0.2] (g))."""

import itertools
import random
import time
import unittest
from fractions import Fraction

from gridshapes.errors import NoMenu, NoPiece, NoSimple
from gridshapes.owners import does_own, owned_samples, owners_among
from gridshapes.pieces import (
    accepts_flaw, are_parting, diagonals_of, ears_of, fewest_round, first_flaw, pieces_by, told_triangles)
from gridshapes.rounds import is_round
from gridshapes.simples import is_simple, simple_of, simple_twice
from tests.outlines import (
    BENT, COMB, DART, OUTLINES, STAR, TRIANGLE, do_part, random_simple, second_diagonals, second_simple)
from tests.reckon import BIG, FULL_SHAPES, GREAT, SIX, SQUARE, cornered, cross, less, place, plus
from tests.wrong import (
    ODD_THINGS, WRONG_SIMPLES, assert_raises_told, bent, check_calls, check_wrong, row_of_things, rows_of)

SIMPLE_ROWS = rows_of(WRONG_SIMPLES, NoSimple)
PIECE_ROWS = row_of_things(SQUARE, WRONG_SIMPLES, NoPiece, 20)
NAMES = ("simple", "pieces")


def outlines(seed, many, size=6, most=12):
    rng = random.Random(seed)
    sizes = [k for k in (3, 4, 5, 6, 8, 10, 12) if k <= most]
    return [random_simple(rng, rng.choice(sizes), size) for _ in range(many)]


def do_interleave(one, other):
    """Whether of two pairs of numbers each parts the other's in a ring."""
    inside = [one[0] < k < one[1] for k in other]
    return len(set(one + other)) == 4 and inside[0] != inside[1]


def random_diagonals(rng, outline, most=9):
    chosen = []
    for diagonal in rng.sample(second_diagonals(outline), len(second_diagonals(outline))):
        if len(chosen) < most and not any(do_interleave(diagonal, other) for other in chosen):
            chosen.append(diagonal)
    return chosen


def second_numbers(outline, pieces):
    """All flaws: the beginnings at each corner, on the line along each direction, of all sides that lie on it."""
    points = {corner for shape in [outline, *pieces] for corner in shape}
    directions = set()
    for shape in [outline, *pieces]:
        for a, b in zip(shape, shape[1:] + shape[:1]):
            x, y = less(b, a)
            divisor = abs(x if y == 0 else y) if 0 in (x, y) else None
            if divisor is None:
                divisor = next(k for k in range(min(abs(x), abs(y)), 0, -1) if x % k == 0 and y % k == 0)
            x, y = x // divisor, y // divisor
            directions.add((x, y) if y > 0 or (y == 0 and x > 0) else (-x, -y))
    flaws = []
    for u in directions:
        for p in points:
            number = 0
            for shape, sign in [(outline, -1)] + [(piece, 1) for piece in pieces]:
                for a, b in zip(shape, shape[1:] + shape[:1]):
                    if cross(less(b, a), u) == 0 and p in (a, b):
                        number += sign if p == a else -sign
            if number != 0:
                flaws.append((u, p, number))
    return flaws


def by_slope(flaws):
    """By the point's y and x, then the direction's slope."""
    return sorted(flaws, key=lambda flaw: (flaw[1][1], flaw[1][0], slope_key(flaw[0])))


def slope_key(u):
    return (0, 0) if u[1] == 0 else (1, Fraction(-u[0], u[1]))


def partings(seed, many, size=5):
    """A shape and pieces that part it, or nearly so."""
    rng = random.Random(seed)
    for outline in outlines(seed + 1, many, size):
        pieces = pieces_by(outline, random_diagonals(rng, outline, rng.randint(0, 9)))
        kind = rng.randint(0, 6)
        if kind == 0:
            pieces = pieces + [rng.choice(pieces)]
        elif kind == 1 and len(pieces) > 1:
            pieces = pieces[1:]
        elif kind == 2:
            k = rng.randrange(len(pieces))
            pieces[k] = tuple(plus(corner, (1, 0)) for corner in pieces[k])
        elif kind == 3:
            pieces = pieces + [random_simple(rng, 4, size)]
        rng.shuffle(pieces)
        yield outline, pieces[:20] if rng.randint(0, 1) else tuple(pieces[:20])


class Partings(unittest.TestCase):
    def test_against_all_cells(self):
        count = {True: 0, False: 0}
        for args in partings(240, 80):
            right = do_part(args[0], args[1])
            self.assertIs(check_calls(self, are_parting, NAMES, args), right, args)
            flaws = by_slope(second_numbers(*args))
            self.assertEqual(flaws == [], right)
            self.assertEqual(check_calls(self, first_flaw, NAMES, args), flaws[0] if flaws else None, args)
            count[right] += 1
        self.assertGreater(min(count.values()), 20)

    def test_each_point_has_one_owner(self):
        for outline, pieces in partings(242, 30):
            if are_parting(outline, pieces):
                for p in itertools.product(range(-1, 7), repeat=2):
                    self.assertEqual(len(owners_among(list(pieces), p)), int(does_own(outline, p)))

    def test_small_ones(self):
        self.assertIs(are_parting(SQUARE, [SQUARE]), True)
        self.assertIsNone(first_flaw(SQUARE, [SQUARE]))
        self.assertIs(are_parting(SQUARE, [SQUARE, SQUARE]), False)
        self.assertEqual(first_flaw(SQUARE, [SQUARE, SQUARE]), ((1, 0), (0, 0), 1))
        two = [((0, 0), (1, 0), (1, 1)), ((0, 0), (1, 1), (0, 1))]
        self.assertIs(are_parting(SQUARE, two), True)
        self.assertIs(are_parting(SQUARE, two[::-1]), True)
        self.assertEqual(first_flaw(SQUARE, two[:1]), ((1, 1), (0, 0), -1))
        self.assertEqual(first_flaw(SQUARE, two[1:]), ((1, 0), (0, 0), -1))
        # The sides of the pieces need not end where those of the others do.
        wide = ((0, 0), (4, 0), (4, 2), (0, 2))
        bricks = [((0, 0), (4, 0), (4, 1), (0, 1)), ((0, 1), (1, 1), (1, 2), (0, 2)), ((1, 1), (4, 1), (4, 2), (1, 2))]
        self.assertIs(are_parting(wide, bricks), True)
        bricks[2] = ((1, 1), (3, 1), (3, 2), (1, 2))
        self.assertEqual(first_flaw(wide, bricks), ((1, 0), (3, 1), -1))
        self.assertIs(are_parting(wide, [((0, 0), (2, 0), (2, 2), (0, 2)), ((2, 0), (4, 0), (4, 2), (2, 2))]), True)

    def test_pieces_out_of_the_shape(self):
        far = tuple(plus(corner, (9, -9)) for corner in SQUARE)
        self.assertEqual(first_flaw(SQUARE, [SQUARE, far]), ((1, 0), (9, -9), 1))
        self.assertEqual(first_flaw(far, [SQUARE]), ((1, 0), (9, -9), -1))

    def test_twenty_pieces(self):
        row = ((0, 0), (20, 0), (20, 1), (0, 1))
        pieces = [tuple(plus(corner, (k, 0)) for corner in SQUARE) for k in range(20)]
        self.assertIs(are_parting(row, pieces), True)
        self.assertIs(are_parting(row, tuple(pieces[::-1])), True)
        self.assertIs(are_parting(row, pieces[:19]), False)
        self.assertEqual(first_flaw(row, pieces[:19]), ((1, 0), (19, 0), -1))
        with self.assertRaises(NoPiece) as caught:
            are_parting(row, pieces + pieces[:1])
        self.assertIsNone(caught.exception.told)

    def test_sixty_digits(self):
        half = ((-BIG, -BIG), (BIG, -BIG), (BIG, BIG)), ((-BIG, -BIG), (BIG, BIG), (-BIG, BIG))
        self.assertIs(are_parting(GREAT, half), True)
        bad = (half[0], ((-BIG, -BIG), (BIG - 1, BIG), (-BIG, BIG)))
        self.assertEqual(first_flaw(GREAT, bad), ((1, 1), (-BIG, -BIG), -1))

    def test_accepts_flaw(self):
        names = NAMES + ("value",)
        right = 0
        for outline, pieces in partings(244, 60):
            flaws = second_numbers(outline, pieces)
            for u, p, number in flaws:
                self.assertIs(accepts_flaw(outline, pieces, (u, p, number)), True)
                for value in ((u, p, number + 1), (u, p, -number), (u, p, 0), ((-u[0], -u[1]), p, number),
                              ((2 * u[0], 2 * u[1]), p, number), (u, (p[0] + 40, p[1]), number)):
                    self.assertIs(accepts_flaw(outline, pieces, value), False, value)
                right += 1
            for u, p in itertools.product(((1, 0), (0, 1), (1, 1)), ((0, 0), (1, 1), (2, 0))):
                for number in (-1, 0, 1):
                    self.assertIs(accepts_flaw(outline, pieces, (u, p, number)), (u, p, number) in flaws)
        self.assertGreater(right, 50)
        args = (SQUARE, [SQUARE, SQUARE], ((1, 0), (0, 0), 1))
        self.assertIs(check_calls(self, accepts_flaw, names, args), True)
        for value in bent(args[2]):
            self.assertIs(accepts_flaw(*args[:2], value), False, value)
        self.assertIs(accepts_flaw(*args[:2], ((1, 0), (0, 0), True)), False)
        self.assertIs(accepts_flaw(*args[:2], ((True, 0), (0, 0), 1)), False)
        self.assertIs(accepts_flaw(*args[:2], ((1, 0), (False, 0), 1)), False)
        self.assertIs(accepts_flaw(*args[:2], ((0, 1), (0, 1), 1)), True)
        for value in ODD_THINGS + (((1, 0), (0, 0)), ((1, 0), (0, 0), None), (None, None, 1), ([1, 0], [0, 0], 1),
                                   ((1, 0), (0, 0), 1, 1), ("flaw", (1, 0), (0, 0), 1), ({}, [], 1), ((), (), ())):
            self.assertIs(accepts_flaw(*args[:2], value), False, value)
            self.assertIs(accepts_flaw(SQUARE, [SQUARE], value), False, value)

    def test_wrong(self):
        for function in (are_parting, first_flaw):
            check_wrong(self, function, NAMES, (BENT, [SQUARE]), [SIMPLE_ROWS, PIECE_ROWS])
        check_wrong(self, accepts_flaw, NAMES + ("value",), (BENT, [SQUARE], None), [SIMPLE_ROWS, PIECE_ROWS])


def second_ears(row):
    many = len(row)
    if many == 3:
        return []
    found = []
    for k in range(many):
        three = (row[k - 1], row[k], row[(k + 1) % many])
        if cross(less(three[1], three[0]), less(three[2], three[1])) > 0:
            if all(place(three, p) == "out" for p in row if p not in three):
                found.append(k)
    return found


class Ears(unittest.TestCase):
    def test_against_all_corners(self):
        for outline in OUTLINES + tuple(outlines(246, 35)):
            told = check_calls(self, ears_of, ("simple",), (outline,))
            self.assertEqual(told, second_ears(outline))
            self.assertIsInstance(told, list)
            if len(outline) > 3:
                self.assertGreaterEqual(len(told), 2)

    def test_told_triangles(self):
        for outline in OUTLINES + tuple(outlines(247, 35)):
            row, expected = list(outline), []
            while len(row) > 3:
                k = second_ears(row)[0]
                expected.append(second_simple([row[k - 1], row[k], row[(k + 1) % len(row)]]))
                del row[k]
            expected.append(second_simple(row))
            told = check_calls(self, told_triangles, ("simple",), (outline,))
            self.assertEqual(told, expected, outline)
            self.assertEqual(len(told), len(outline) - 2)
            self.assertIs(are_parting(outline, told), True)
            self.assertEqual(sum(map(owned_samples, told)), owned_samples(outline))
            self.assertEqual(sum(map(simple_twice, told)), simple_twice(outline))

    def test_edges(self):
        self.assertEqual(ears_of(TRIANGLE), [])
        self.assertEqual(told_triangles(TRIANGLE), [TRIANGLE])
        self.assertEqual(ears_of(SQUARE), [0, 1, 2, 3])
        self.assertEqual(told_triangles(SQUARE), [((0, 0), (1, 0), (0, 1)), ((1, 0), (1, 1), (0, 1))])
        self.assertEqual(ears_of(DART), [1, 3])
        self.assertEqual(told_triangles(DART), [((0, 0), (4, 1), (1, 1)), ((0, 0), (1, 1), (1, 4))])
        # A corner on the rim of the triangle: no ear.
        self.assertEqual(ears_of(BENT), [1, 2, 4, 5])
        # Left out, an ear leaves corners in a line.
        arrow = ((0, 0), (6, 0), (3, 1), (3, 2), (3, 3))
        self.assertEqual(told_triangles(simple_of(arrow)), told_triangles(second_simple(arrow)))
        steps = ((0, 0), (3, 0), (2, 1), (2, 2), (1, 2), (0, 3))
        self.assertEqual(ears_of(steps), second_ears(steps))
        self.assertIs(are_parting(steps, told_triangles(steps)), True)

    def test_wrong(self):
        for function in (ears_of, told_triangles, diagonals_of, fewest_round):
            check_wrong(self, function, ("simple",), (BENT,), [SIMPLE_ROWS])


class Diagonals(unittest.TestCase):
    names = ("simple", "diagonals")

    def test_against_all_stretches(self):
        for outline in OUTLINES + tuple(outlines(248, 40)):
            told = check_calls(self, diagonals_of, ("simple",), (outline,))
            self.assertEqual(told, second_diagonals(outline), outline)
            self.assertIsInstance(told, list)

    def test_edges(self):
        self.assertEqual(diagonals_of(TRIANGLE), [])
        self.assertEqual(diagonals_of(SQUARE), [(0, 2), (1, 3)])
        self.assertEqual(diagonals_of(DART), [(0, 2)])
        self.assertEqual(diagonals_of(BENT), [(0, 2), (0, 3), (0, 4), (1, 3), (3, 5)])
        # Along a side there is none, nor over the gap between two teeth, nor through the teeth's inner corners.
        for pair in ((2, 11), (3, 6), (4, 8), (4, 9), (5, 9), (2, 10)):
            self.assertNotIn(pair, diagonals_of(COMB))
        self.assertEqual([pair for pair in diagonals_of(COMB) if 5 in pair], [(0, 5), (1, 5), (5, 7), (5, 8)])
        twelve = cornered(12)
        self.assertEqual(len(diagonals_of(twelve)), 54)
        self.assertEqual(diagonals_of(GREAT), [(0, 2), (1, 3)])

    def test_pieces(self):
        rng = random.Random(249)
        for outline in OUTLINES + tuple(outlines(250, 40)):
            chosen = random_diagonals(rng, outline, rng.randint(0, 9))
            told = check_calls(self, pieces_by, self.names, (outline, chosen))
            self.assertIsInstance(told, list)
            self.assertEqual(len(told), len(chosen) + 1)
            self.assertTrue(all(is_simple(piece) for piece in told))
            self.assertEqual(pieces_by(outline, tuple(chosen[::-1])), told)
            if len(told) <= 20:
                self.assertIs(do_part(outline, told), True)
            self.assertEqual(told, [second_simple([outline[k] for k in row]) for row in second_rows(outline, chosen)])

    def test_told_pieces(self):
        self.assertEqual(pieces_by(SQUARE, []), [SQUARE])
        self.assertEqual(pieces_by(TRIANGLE, ()), [TRIANGLE])
        self.assertEqual(pieces_by(SQUARE, [(1, 3)]), [((0, 0), (1, 0), (0, 1)), ((1, 0), (1, 1), (0, 1))])
        self.assertEqual(pieces_by(SQUARE, [(0, 2)]), [((0, 0), (1, 0), (1, 1)), ((0, 0), (1, 1), (0, 1))])
        # The piece of the corners 0, 3, 4, 5 goes straight on at none; that of 4, 5, 7, 8, 9 does at 7.
        house = ((0, 0), (4, 0), (4, 2), (3, 2), (2, 4), (1, 2), (0, 2))
        self.assertEqual(pieces_by(house, [(3, 5)]), [((0, 0), (4, 0), (4, 2), (0, 2)), ((1, 2), (3, 2), (2, 4))])
        # Ascending by the indexes of the corners, not by the corners.
        self.assertEqual(pieces_by(SIX, [(0, 2), (0, 3), (0, 4)]), [
            second_simple([SIX[k] for k in row]) for row in ((0, 1, 2), (0, 2, 3), (0, 3, 4), (0, 4, 5))])

    def test_wrong_diagonals(self):
        for diagonals in (None, True, 3, "ab", {}, {(0, 2): 1}, b"a"):
            assert_raises_told(self, NoMenu, None, pieces_by, SQUARE, diagonals)
        for bad in ODD_THINGS + (
                (0, 1), (2, 0), (3, 0), (0, 3), (0, 4), (-4, 2), (0, 2, 0), [0, 2], (False, 2), (0, 2.0), (1, 1),
                (1, 4), (-1, 1)):
            assert_raises_told(self, NoMenu, 0, pieces_by, SQUARE, [bad])
            assert_raises_told(self, NoMenu, 0, pieces_by, SQUARE, (bad, bad))
            assert_raises_told(self, NoMenu, 1, pieces_by, SQUARE, [(0, 2), bad])
        assert_raises_told(self, NoMenu, 1, pieces_by, SQUARE, [(0, 2), (0, 2)])
        assert_raises_told(self, NoMenu, 1, pieces_by, SQUARE, [(0, 2), (1, 3)])
        assert_raises_told(self, NoMenu, 2, pieces_by, SIX, [(0, 2), (0, 3), (2, 4), (0, 3)])
        assert_raises_told(self, NoMenu, 2, pieces_by, SIX, [(0, 2), (2, 4), (2, 4)])
        assert_raises_told(self, NoMenu, 0, pieces_by, BENT, [(1, 4)])
        check_wrong(self, pieces_by, self.names, (SQUARE, [(0, 2)]), [
            SIMPLE_ROWS, [(5, NoMenu, None), ([None], NoMenu, 0), ([(0, 2), (1, 3)], NoMenu, 1)]])


def second_rows(outline, diagonals):
    """The indexes of the corners of each piece: walked round along sides and diagonals, as far left as can be."""
    many = len(outline)
    ways = [(k, (k + 1) % many) for k in range(many)]
    for i, j in diagonals:
        ways += [(i, j), (j, i)]
    rows = set()
    for begin in ways:
        row = [begin[0]]
        here, there = begin
        while there != row[0]:
            row.append(there)
            # Of all ways on, the one to the corner next behind where it came from: no diagonal lies between.
            onward = [b for a, b in ways if a == there and b != here]
            here, there = there, min(onward, key=lambda b: (here - b) % many)
        rows.add(tuple(sorted(row)))
    return sorted(rows)


def second_fewest(outline):
    """The first lot of the fewest, by going through all lots."""
    diagonals = second_diagonals(outline)
    for many in range(len(outline) - 2):
        for lot in itertools.combinations(diagonals, many):
            if any(do_interleave(a, b) for a, b in itertools.combinations(lot, 2)):
                continue
            if all(is_round(second_simple([outline[k] for k in row])) for row in second_rows(outline, lot)):
                return lot
    return None


class FewestRound(unittest.TestCase):
    def test_against_all_lots(self):
        lengths = {}
        for outline in (SQUARE, TRIANGLE, BENT, DART) + tuple(outlines(251, 60, 6, 8)):
            expected = second_fewest(outline)
            told = check_calls(self, fewest_round, ("simple",), (outline,))
            self.assertEqual(told, expected, outline)
            self.assertIsInstance(told, tuple)
            lengths[len(told)] = True
        self.assertGreaterEqual(len(lengths), 4)

    def test_of_many_corners(self):
        for outline in (COMB, STAR) + tuple(outlines(252, 25, 9)):
            told = fewest_round(outline)
            pieces = pieces_by(outline, told)
            self.assertTrue(all(is_round(piece) for piece in pieces))
            self.assertIs(are_parting(outline, pieces), True)
            rights = [k for k in range(len(outline)) if cross(
                less(outline[k], outline[k - 1]), less(outline[(k + 1) % len(outline)], outline[k])) < 0]
            for k in rights:
                self.assertTrue(any(k in pair for pair in told))
            self.assertLessEqual(len(told), 2 * len(rights))
            self.assertGreaterEqual(2 * len(told), len(rights))
            self.assertEqual(told, tuple(sorted(told)))

    def test_edges(self):
        for shape in FULL_SHAPES + (cornered(12), GREAT, TRIANGLE):
            self.assertEqual(fewest_round(shape), ())
        self.assertEqual(fewest_round(BENT), ((0, 3),))
        self.assertEqual(fewest_round(DART), ((0, 2),))
        # Two right corners, and one stretch between them that helps both.
        waist = ((0, 0), (6, 0), (4, 2), (6, 4), (0, 4), (2, 2))
        self.assertEqual(fewest_round(waist), ((2, 5),))
        self.assertEqual(fewest_round(STAR), second_fewest_star())

    def test_speed(self):
        begin = time.process_time()
        saw = simple_of([(0, 0), (30, 9), (60, 0), (57, 30), (60, 60), (30, 51), (0, 60), (9, 30)])
        for outline in (COMB, STAR, saw) + tuple(outlines(253, 30, 40)):
            fewest_round(outline)
        twelve = [(0, 0), (50, 20), (100, 0), (80, 50), (100, 100), (50, 80), (0, 100), (20, 50)]
        fewest_round(simple_of(twelve))
        bow = [(0, 0), (10, 3), (20, 5), (30, 6), (40, 6), (50, 5), (60, 3), (70, 0), (70, 50), (35, 52), (20, 51),
               (0, 50)]
        fewest_round(simple_of(bow))
        self.assertLess(time.process_time() - begin, 15)


def second_fewest_star():
    """The star has five right corners: three diagonals are needed, and the first lot of three is looked for."""
    diagonals = second_diagonals(STAR)
    for lot in itertools.combinations(diagonals, 3):
        if any(do_interleave(a, b) for a, b in itertools.combinations(lot, 2)):
            continue
        if all(is_round(second_simple([STAR[k] for k in row])) for row in second_rows(STAR, lot)):
            return lot
    return None


if __name__ == "__main__":
    unittest.main()
