"""Floor sums and remainders ([9], [0.2] (f))."""

import random
import time
import unittest

from gridshapes.errors import NoCount, NoNumber
from gridshapes.floors import first_whole
from gridshapes.floorsums import first_remainder, floor_moments, floor_sum, low_remainders
from tests.wrong import WRONG_NUMBERS, check_calls, check_wrong, rows_of

NAMES = ("n", "a", "b", "m")
HUGE = 10 ** 200
COUNT_ROWS = rows_of(WRONG_NUMBERS + (-1, -HUGE), NoCount)
NUMBER_ROWS = rows_of(WRONG_NUMBERS, NoNumber)
DIVISOR_ROWS = rows_of(WRONG_NUMBERS + (0, -1, -HUGE), NoNumber)


def trials(seed, many):
    rng = random.Random(seed)
    for _ in range(many):
        size = rng.choice((3, 10, 60))
        yield rng.randint(0, 20), rng.randint(-size, size), rng.randint(-size, size), rng.randint(1, size)


def huge_trials(seed, many, digits=200):
    rng = random.Random(seed)
    top = 10 ** digits
    for _ in range(many):
        yield (rng.randrange(top), rng.randint(-top, top), rng.randint(-top, top),
               rng.choice((rng.randint(1, top), rng.randint(1, 10 ** (digits // 2)), 1, top)))


class FloorSums(unittest.TestCase):
    def test_example(self):
        self.assertEqual((floor_sum(4, 3, 1, 2), low_remainders(10, 3, 1, 7, 2), first_remainder(3, 1, 7, 5, 6)),
                         (10, 4, 4))

    def test_against_each_floor(self):
        for n, a, b, m in trials(160, 2000):
            floors = [(a * i + b) // m for i in range(n)]
            self.assertEqual(floor_sum(n, a, b, m), sum(floors))
            told = floor_moments(n, a, b, m)
            self.assertEqual(told, (sum(floors), sum(i * f for i, f in enumerate(floors)), sum(f * f for f in floors)))
        for args in trials(161, 30):
            check_calls(self, floor_sum, NAMES, args)
            self.assertIsInstance(check_calls(self, floor_moments, NAMES, args), tuple)

    def test_edges(self):
        self.assertEqual(floor_sum(0, 5, 7, 1), 0)
        self.assertEqual(floor_moments(0, 5, 7, 1), (0, 0, 0))
        self.assertEqual(floor_sum(1, 0, -1, 2), -1)
        self.assertEqual(floor_sum(3, 0, -1, 2), -3)
        self.assertEqual(floor_moments(3, 0, -1, 2), (-3, -3, 3))
        self.assertEqual(floor_sum(1, 5, 7, 2), 3)
        self.assertEqual(floor_sum(5, 1, 0, 1), 10)
        self.assertEqual(floor_sum(5, -1, 0, 1), -10)
        self.assertEqual(floor_sum(HUGE, 0, 0, HUGE), 0)
        self.assertEqual(floor_sum(HUGE, 1, 0, HUGE), 0)
        self.assertEqual(floor_sum(HUGE, 1, 1, HUGE), 1)
        self.assertEqual(floor_sum(HUGE, -1, 0, HUGE), 1 - HUGE)
        self.assertEqual(floor_moments(HUGE, -1, 0, HUGE), (1 - HUGE, -(HUGE * (HUGE - 1) // 2), HUGE - 1))

    def test_huge_numbers_by_parts(self):
        rng = random.Random(162)
        for n, a, b, m in huge_trials(163, 15):
            k = rng.randint(0, n)
            # From k on the line is (a, a k + b).
            self.assertEqual(floor_sum(n, a, b, m), floor_sum(k, a, b, m) + floor_sum(n - k, a, a * k + b, m))
            f, g, h = floor_moments(k, a, b, m)
            p, q, r = floor_moments(n - k, a, a * k + b, m)
            self.assertEqual(floor_moments(n, a, b, m), (f + p, g + k * p + q, h + r))
            self.assertEqual(floor_moments(n, a, b, m)[0], floor_sum(n, a, b, m))

    def test_huge_numbers_by_the_other_way_round(self):
        # The floors of (a i + b) / m, from the last i to the first one, and of lines moved by whole slopes.
        for n, a, b, m in huge_trials(164, 15):
            f, g, h = floor_moments(n, a, b, m)
            p, q, r = floor_moments(n, -a, a * (n - 1) + b, m)
            self.assertEqual((p, q, r), (f, (n - 1) * f - g, h))
            ones = n * (n - 1) // 2
            self.assertEqual(floor_sum(n, a + 3 * m, b - 2 * m, m), f + 3 * ones - 2 * n)
            # A whole slope: the floors are known.
            self.assertEqual(floor_sum(n, a * m, b, m), a * ones + n * (b // m))
            self.assertEqual(floor_sum(n, a, b, 1), a * ones + n * b)

    def test_huge_numbers_of_points_under_a_line(self):
        # All grid points of a rectangle without those on one side of its diagonal: both halves are alike.
        rng = random.Random(165)
        for _ in range(10):
            p = rng.randrange(10 ** 199, HUGE) | 1
            q = p + 2
            self.assertEqual(floor_sum(p, q, 0, p), (p - 1) * (q - 1) // 2)

    def test_speed(self):
        begin = time.process_time()
        for args in huge_trials(166, 100):
            floor_sum(*args)
            floor_moments(*args)
        # Divisions with the least remainders take the most steps.
        one, other = 1, 1
        while other < HUGE:
            one, other = other, one + other
        floor_moments(HUGE, one, other, other)
        first_remainder(one, 0, other, other - 1, other - 1)
        self.assertLess(time.process_time() - begin, 10)

    def test_wrong(self):
        rows = [COUNT_ROWS, NUMBER_ROWS, NUMBER_ROWS, DIVISOR_ROWS]
        for function in (floor_sum, floor_moments):
            check_wrong(self, function, NAMES, (4, 3, 1, 2), rows)
        more = rows_of(WRONG_NUMBERS + (-1, 3, HUGE), NoNumber)
        check_wrong(self, low_remainders, NAMES + ("r",), (4, 3, 1, 2, 1), rows + [more])
        self.assertEqual(floor_sum(HUGE, -HUGE, HUGE, 1), HUGE * HUGE - HUGE * (HUGE * (HUGE - 1) // 2))


class LowRemainders(unittest.TestCase):
    names = NAMES + ("r",)

    def test_against_each_remainder(self):
        for n, a, b, m in trials(167, 800):
            remainders = [(a * i + b) % m for i in range(n)]
            for r in {0, 1, m // 2, m - 1, m}:
                self.assertEqual(low_remainders(n, a, b, m, r), sum(k < r for k in remainders))
        for args in trials(168, 20):
            check_calls(self, low_remainders, self.names, args + (args[3] // 2,))

    def test_edges(self):
        for args in huge_trials(169, 10):
            self.assertEqual(low_remainders(*args, 0), 0)
            self.assertEqual(low_remainders(*args, args[3]), args[0])
        self.assertEqual(low_remainders(0, 3, 1, 7, 7), 0)
        self.assertEqual(low_remainders(HUGE, 1, 0, HUGE, 1), 1)
        self.assertEqual(low_remainders(HUGE + 1, 1, 0, HUGE, 1), 2)
        self.assertEqual(low_remainders(HUGE, -1, 0, HUGE, HUGE // 2), HUGE // 2)
        self.assertEqual(low_remainders(HUGE, 3, 1, 7, 3), 3 * (HUGE // 7) + sum(
            (3 * i + 1) % 7 < 3 for i in range(HUGE % 7)))


class FirstRemainders(unittest.TestCase):
    names = ("a", "b", "m", "low", "high")

    def test_against_going_through(self):
        rng = random.Random(170)
        none = 0
        for _, a, b, m in trials(171, 3000):
            low = rng.randint(0, m - 1)
            high = rng.randint(low, m - 1)
            if rng.randint(0, 1):
                high = low
            expected = next((i for i in range(m) if low <= (a * i + b) % m <= high), None)
            self.assertEqual(first_remainder(a, b, m, low, high), expected, (a, b, m, low, high))
            none += expected is None
        self.assertGreater(none, 300)
        for _, a, b, m in trials(172, 20):
            check_calls(self, first_remainder, self.names, (a, b, m, 0, m - 1))

    def test_edges(self):
        self.assertEqual(first_remainder(0, 0, 1, 0, 0), 0)
        self.assertEqual(first_remainder(0, 3, 7, 3, 3), 0)
        self.assertIsNone(first_remainder(0, 3, 7, 4, 6))
        self.assertIsNone(first_remainder(7, 3, 7, 4, 6))
        self.assertIsNone(first_remainder(2, 0, 4, 1, 1))
        self.assertEqual(first_remainder(2, 0, 4, 1, 2), 1)
        self.assertEqual(first_remainder(1, 0, HUGE, HUGE - 1, HUGE - 1), HUGE - 1)
        self.assertEqual(first_remainder(-1, 0, HUGE, 1, 1), HUGE - 1)
        self.assertEqual(first_remainder(-1, 0, HUGE, 1, HUGE - 1), 1)
        self.assertEqual(first_remainder(3, 0, HUGE, HUGE - 1, HUGE - 1), (HUGE - 1) // 3)
        self.assertIsNone(first_remainder(2, 0, HUGE, 5, 5))

    def test_huge_numbers(self):
        rng = random.Random(173)
        for digits in (3, 30, 200):
            for _, a, b, m in huge_trials(174 + digits, 25, digits):
                low = rng.randrange(m)
                high = min(m - 1, low + rng.choice((0, 1, m // 10 ** 9, m // 3)))
                i = first_remainder(a, b, m, low, high)
                if i is None:
                    self.assertEqual(low_remainders(m, a, b, m, high + 1), low_remainders(m, a, b, m, low))
                else:
                    self.assertTrue(low <= (a * i + b) % m <= high)
                    self.assertEqual(low_remainders(i, a, b, m, high + 1), low_remainders(i, a, b, m, low))

    def test_wrong(self):
        rows = [NUMBER_ROWS, NUMBER_ROWS, DIVISOR_ROWS]
        low = rows_of(WRONG_NUMBERS + (-1, 7, HUGE), NoNumber)
        check_wrong(self, first_remainder, self.names, (3, 1, 7, 2, 5), rows + [low, low + rows_of((1, 0), NoNumber)])


class FirstWhole(unittest.TestCase):
    def test_against_going_through(self):
        rng = random.Random(175)
        count = {True: 0, False: 0}
        for _ in range(8000):
            (a, b, m), (c, d, k) = [
                (rng.randint(-20, 20), rng.randint(-20, 20), rng.randint(1, 15)) for _ in range(2)]
            if rng.randint(0, 1):
                times = rng.randint(1, 7)
                c, d, k = a * times + rng.randint(-1, 1), b * times + rng.randint(0, 2), m * times
            if b * k > d * m:
                (a, b, m), (c, d, k) = (c, d, k), (a, b, m)
            found = next((y for y in range(350) if -(-(a * y + b) // m) <= (c * y + d) // k), None)
            told = first_whole((a, b, m), (c, d, k))
            if found is None and told is not None:
                self.assertGreaterEqual(told, 350)
            else:
                self.assertEqual(told, found, (a, b, m, c, d, k))
            count[found is None] += 1
        self.assertGreater(min(count.values()), 200)


if __name__ == "__main__":
    unittest.main()
