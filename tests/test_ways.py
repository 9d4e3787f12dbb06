"""Ways of a mover among lying shapes, and the papers of them ([13], [0.2] (h))."""

import itertools
import random
import time
import unittest

from gridshapes.errors import NoFloor, NoMenu, NoMove, NoPlace
from gridshapes.ways import (
    accepts_least, accepts_way, distances_from, farthest_from, goes, hit_at, is_enough_lifted, is_floor, least_lifted,
    least_paper, led_to, reached_from, room_of, stands_free, stopped_by, told_row, way_paper)
from tests.floors import (
    BARRED, BOX, CROSS, FLOOR, OPEN, SIDES, UPRIGHT, WRONG_FLOORS, WRONG_PLACES, all_away, away, floors, hits, in_box,
    links, places, second_row, stop)
from tests.reckon import BIG, GREAT, SQUARE, WEDGE, cornered, plus, shifted
from tests.wrong import ODD_THINGS, bent, check_calls, check_wrong, rows_of

START = ("floor", "t")
MOVE = START + ("number",)
GOAL = START + ("goal",)
FLOOR_ROWS = rows_of(WRONG_FLOORS, NoFloor)
PLACE_ROWS = rows_of(WRONG_PLACES, NoPlace)
WRONG_INDEXES = (None, True, False, 4, -1, "0", 0.0, (0,), [0], {}, 10 ** 80)
MOVE_ROWS = rows_of(WRONG_INDEXES, NoMove)
WRONG_ROWS = ODD_THINGS[:8] + (
    [], [0], {}, {0: 0}, 1.5, (None,), ((),), ("a",), (4,), (-1,), (0, True), (False,), (0, 1.0), ((0,),), (0,) * 401,
    (0, 0, 9), "0")
NONE = (0, 1)


class Floors(unittest.TestCase):
    def test_is_floor(self):
        for floor in floors(700, 60) + [FLOOR, OPEN, BARRED]:
            self.assertIs(check_calls(self, is_floor, ("value",), (floor,)), True)
        eight = CROSS + ((1, 1), (-1, 1), (-1, -1), (10 * BIG, -10 * BIG))
        for floor in (
                (tuple(SIDES), SQUARE, eight, ((0, 0), (14, 14))),
                ((SQUARE,) * 5, cornered(60), CROSS[:1], ((3, 3), (3, 3))),
                ((GREAT,), GREAT, CROSS, ((BIG - 14, -BIG), (BIG, 14 - BIG)))):
            self.assertIs(is_floor(floor), True)
        for value in WRONG_FLOORS:
            self.assertIs(is_floor(value), False, value)

    def test_bent_ones(self):
        # Only the shape twice, no shape, a corner less of one of both shapes, and a move less leave a floor.
        let = [((UPRIGHT, UPRIGHT), SQUARE, CROSS, BOX), OPEN, ((UPRIGHT[:3],), SQUARE, CROSS, BOX),
               ((UPRIGHT,), SQUARE[:3], CROSS, BOX), ((UPRIGHT,), SQUARE, CROSS[:3], BOX)]
        for value in bent(FLOOR):
            self.assertIs(is_floor(value), value in let, value)


class Moves(unittest.TestCase):
    def test_hits(self):
        for floor in floors(730, 40):
            for t in places(floor):
                self.assertEqual(check_calls(self, hit_at, START, (floor, t)), hits(floor, t))
                self.assertIs(check_calls(self, stands_free, START, (floor, t)), hits(floor, t) == [])

    def test_stops(self):
        words = {None: 0, "out": 0, "begin": 0, "way": 0}
        for floor in floors(730, 40):
            for t in places(floor):
                for number in range(len(floor[2])):
                    expected = stop(floor, t, number)
                    self.assertEqual(check_calls(self, stopped_by, MOVE, (floor, t, number)), expected,
                                     (floor, t, number))
                    self.assertIs(check_calls(self, goes, MOVE, (floor, t, number)), expected is None)
                    words[expected if expected is None else expected[0]] += 1
        self.assertGreater(min(words.values()), 50, words)

    def test_edges(self):
        self.assertEqual(stopped_by(FLOOR, (0, 0), 2), ("out",))
        self.assertEqual(stopped_by(FLOOR, (2, 0), 3), ("out",))
        self.assertEqual(stopped_by(FLOOR, (2, 0), 0), ("begin", 0))
        self.assertEqual(stopped_by(FLOOR, (1, 0), 0), ("way", 0, NONE))
        self.assertIsNone(stopped_by(FLOOR, (1, 0), 1))
        self.assertIsNone(stopped_by(FLOOR, (2, 2), 0))
        self.assertIs(stands_free(FLOOR, (1, 0)), True)
        self.assertEqual(hit_at(FLOOR, (2, 1)), [0])
        long = ((UPRIGHT, shifted(UPRIGHT, (-1, 0)), UPRIGHT), SQUARE, ((4, 0), (4, 4), (-3, 1)), BOX)
        # Stopped on the way although begin and end stand free.
        self.assertEqual(stopped_by(long, (0, 0), 0), ("way", 1, NONE))
        self.assertEqual(stopped_by(long[:1] + (((-1, 0), (0, 0), (0, 1)),) + long[2:], (0, 1), 0), ("way", 1, (1, 4)))
        self.assertEqual(stopped_by((long[0][::2],) + long[1:], (0, 0), 0), ("way", 0, (1, 4)))
        self.assertEqual(stopped_by((long[0][:1],) + long[1:], (0, 0), 1), ("way", 0, (1, 4)))
        self.assertIsNone(stopped_by(((shifted(WEDGE, (2, -3)),),) + long[1:], (0, 0), 0))
        self.assertEqual(stopped_by(long, (4, 3), 2), None)
        self.assertEqual(hit_at(long, (1, 1)), [1])
        self.assertEqual(hit_at(long, (2, 1)), [0, 2])

    def test_wrong(self):
        for function in (hit_at, stands_free, reached_from, distances_from, farthest_from, room_of):
            check_wrong(self, function, START, (FLOOR, (0, 0)), [FLOOR_ROWS, PLACE_ROWS])
        for function in (goes, stopped_by):
            check_wrong(self, function, MOVE, (FLOOR, (0, 0), 0), [FLOOR_ROWS, PLACE_ROWS, MOVE_ROWS])
        check_wrong(self, led_to, START + ("row",), (FLOOR, (0, 0), (0,)),
                    [FLOOR_ROWS, PLACE_ROWS, rows_of(WRONG_ROWS, NoMove)])
        for function in (told_row, least_lifted, way_paper, least_paper):
            check_wrong(self, function, GOAL, (FLOOR, (0, 0), (1, 1)), [FLOOR_ROWS, PLACE_ROWS, PLACE_ROWS])
        for function in (accepts_way, accepts_least):
            check_wrong(self, function, GOAL + ("value",), (FLOOR, (0, 0), (1, 1), None),
                        [FLOOR_ROWS, PLACE_ROWS, PLACE_ROWS])
        lots = (None, True, 0, {}, {0: 0}, "0", "", [1], (1,), [-1], [0, 0], (0, 0), [True], [False], [None], [[0]],
                (0.0,))
        check_wrong(self, is_enough_lifted, GOAL + ("lot",), (FLOOR, (0, 0), (1, 1), [0]),
                    [FLOOR_ROWS, PLACE_ROWS, PLACE_ROWS, rows_of(lots, NoMenu)])


class Rows(unittest.TestCase):
    def test_where_rows_lead(self):
        rng = random.Random(720)
        led = 0
        for floor in floors(730, 40):
            table = links(floor)
            for t in places(floor):
                row = []
                here = t
                for _ in range(rng.randint(0, 9)):
                    numbers = list(table[here]) or [0]
                    row.append(rng.choice(numbers) if rng.randint(0, 9) else rng.randrange(len(floor[2])))
                    here = table[here].get(row[-1], here)
                expected = None if hits(floor, t) else t
                for number in row:
                    expected = None if expected is None else table[expected].get(number)
                self.assertEqual(check_calls(self, led_to, START + ("row",), (floor, t, tuple(row))), expected)
                led += expected is not None and len(row) > 2
        self.assertGreater(led, 30)

    def test_edges(self):
        self.assertEqual(led_to(FLOOR, (0, 0), ()), (0, 0))
        self.assertIsNone(led_to(FLOOR, (2, 0), ()))
        self.assertIsNone(led_to(FLOOR, (2, 0), (2,)))
        self.assertEqual(led_to(FLOOR, (0, 0), (0, 2) * 200), (0, 0))
        with self.assertRaises(NoMove):
            led_to(FLOOR, (0, 0), (0, 2) * 200 + (0,))
        with self.assertRaises(NoMove):
            led_to(FLOOR, (2, 0), [0])
        self.assertIsNone(led_to(FLOOR, (0, 0), (0, 0)))
        self.assertIsNone(led_to(FLOOR, (0, 0), (2, 0)))


class Reached(unittest.TestCase):
    def test_against_going_over_all_moves(self):
        far_ones = 0
        for floor in floors(730, 40):
            table = links(floor)
            all_far = all_away(floor)
            for t in places(floor)[::2]:
                free = not hits(floor, t)
                far = {goal: all_far[goal][t] for goal in places(floor) if free and t in all_far[goal]}
                self.assertEqual(check_calls(self, reached_from, START, (floor, t)), sorted(far))
                distances = check_calls(self, distances_from, START, (floor, t))
                self.assertEqual(list(distances.items()), sorted(far.items()))
                most = max(far.values(), default=0)
                self.assertEqual(check_calls(self, farthest_from, START, (floor, t)),
                                 [goal for goal in sorted(far) if far[goal] == most])
                self.assertEqual(check_calls(self, room_of, START, (floor, t)),
                                 [goal for goal in sorted(far) if goal in all_far[t]])
                far_ones += most > 4
        self.assertGreater(far_ones, 10)

    def test_told_rows(self):
        rows = {True: 0, False: 0}
        for floor in floors(730, 30):
            table = links(floor)
            all_far = all_away(floor)
            for t, goal in itertools.product(places(floor)[::3], places(floor)[::2]):
                expected = second_row(floor, table, all_far[goal], t, goal)
                self.assertEqual(check_calls(self, told_row, GOAL, (floor, t, goal)), expected, (floor, t, goal))
                rows[expected is None] += 1
        self.assertGreater(min(rows.values()), 100, rows)

    def test_edges(self):
        self.assertEqual(reached_from(FLOOR, (2, 0)), [])
        self.assertEqual(distances_from(FLOOR, (2, 0)), {})
        self.assertEqual(farthest_from(FLOOR, (2, 0)), [])
        self.assertEqual(room_of(FLOOR, (2, 0)), [])
        self.assertIsNone(told_row(FLOOR, (2, 0), (2, 0)))
        one = ((), SQUARE, CROSS, ((7, 7), (7, 7)))
        self.assertEqual((reached_from(one, (7, 7)), distances_from(one, (7, 7))), ([(7, 7)], {(7, 7): 0}))
        self.assertEqual((farthest_from(one, (7, 7)), room_of(one, (7, 7)), told_row(one, (7, 7), (7, 7))),
                         ([(7, 7)], [(7, 7)], ()))
        # One way only: what is reached does not lead back.
        down = ((), SQUARE, ((1, 0),), ((0, 0), (3, 0)))
        self.assertEqual((reached_from(down, (1, 0)), room_of(down, (1, 0))), ([(1, 0), (2, 0), (3, 0)], [(1, 0)]))
        self.assertEqual(told_row(FLOOR, (0, 0), (4, 0)), (0, 1, 1, 0, 0, 0, 3, 3))

    def test_a_great_box_and_sixty_digits(self):
        begun = time.perf_counter()
        eight = CROSS + ((1, 1), (-1, 1), (-1, -1), (1, -1))
        low = (BIG - 1000, -BIG)
        sixty = cornered(60)
        shapes = tuple(shifted(sixty, plus(low, (7 - 232 + 100 * k, 5 * k))) for k in range(3))
        floor = (shapes, SQUARE, eight, (low, plus(low, (14, 14))))
        self.assertEqual(len(reached_from(OPEN[:2] + floor[2:], low)), 225)
        free = [t for t in places(floor) if stands_free(floor, t)]
        self.assertTrue(0 < len(free) < 225)
        told = reached_from(floor, free[0])
        self.assertEqual(room_of(floor, free[0]), told)
        paper = least_paper(floor, free[0], told[-1])
        self.assertIs(accepts_least(floor, free[0], told[-1], paper), True)
        self.assertLess(time.perf_counter() - begun, 5)


class Lifted(unittest.TestCase):
    def second_lots(self, floor, t, goal):
        """All lots that are enough, each tried by a floor without its shapes."""
        enough = []
        for many in range(len(floor[0]) + 1):
            for lot in itertools.combinations(range(len(floor[0])), many):
                rest = (tuple(s for i, s in enumerate(floor[0]) if i not in lot),) + floor[1:]
                if not hits(rest, t) and t in away(links(rest), goal):
                    enough.append(lot)
        return enough

    def test_against_floors_without_them(self):
        rng = random.Random(740)
        sizes = {}
        for floor in floors(741, 40, 3):
            for _ in range(3):
                t, goal = rng.choice(places(floor)), rng.choice(places(floor))
                enough = self.second_lots(floor, t, goal)
                least = [lot for lot in enough if not any(set(other) < set(lot) for other in enough)]
                told = check_calls(self, least_lifted, GOAL, (floor, t, goal))
                self.assertEqual(told, least, (floor, t, goal))
                for lot in told:
                    sizes[len(lot)] = sizes.get(len(lot), 0) + 1
                for many in range(len(floor[0]) + 1):
                    for lot in itertools.combinations(range(len(floor[0])), many):
                        for kind in (tuple(lot), list(lot)[::-1]):
                            args = (floor, t, goal, kind)
                            self.assertIs(check_calls(self, is_enough_lifted, GOAL + ("lot",), args), lot in enough)
        self.assertGreater(min(sizes.get(k, 0) for k in (0, 1, 2)), 2, sizes)

    def test_edges(self):
        self.assertEqual(least_lifted(OPEN, (0, 0), (4, 4)), [()])
        self.assertIs(is_enough_lifted(OPEN, (0, 0), (4, 4), []), True)
        self.assertIs(is_enough_lifted(OPEN, (0, 0), (4, 4), ()), True)
        self.assertEqual(least_lifted(FLOOR, (2, 0), (2, 0)), [(0,)])
        self.assertEqual(least_lifted(FLOOR, (2, 0), (0, 0)), [(0,)])
        self.assertEqual(least_lifted(FLOOR, (0, 0), (2, 0)), [(0,)])
        self.assertIs(is_enough_lifted(FLOOR, (2, 0), (0, 0), ()), False)
        self.assertEqual(least_lifted(BARRED, (0, 0), (14, 14)), [(0, 1, 2, 3, 4)])
        self.assertEqual(least_lifted(BARRED, (0, 0), (5, 0)), [(0, 1)])
        self.assertIs(is_enough_lifted(BARRED, (0, 0), (5, 0), [3, 1, 0]), True)
        self.assertIs(is_enough_lifted(BARRED, (0, 0), (5, 0), [3, 1, 2]), False)
        two_ways = ((((0, 2), (1, 2), (1, 3), (0, 3)), ((2, 0), (3, 0), (3, 1), (2, 1))), SQUARE, CROSS,
                    ((0, 0), (4, 2)))
        self.assertEqual(least_lifted(two_ways, (0, 0), (4, 2)), [()])
        right_alone = ((SIDES[0], ((1, 1), (2, 1), (2, 2), (1, 2))), SQUARE, ((0, 1),), ((0, 0), (3, 3)))
        # No lot leads to the left by a move upwards.
        self.assertEqual(least_lifted(right_alone, (1, 0), (0, 0)), [])


class Papers(unittest.TestCase):
    def test_told_way_papers(self):
        words = {"hit": 0, "row": 0, "shut": 0}
        for floor in floors(730, 40)[10:]:
            table = links(floor)
            all_far = all_away(floor)
            for t, goal in itertools.product(places(floor)[::3], places(floor)[::3]):
                paper = check_calls(self, way_paper, GOAL, (floor, t, goal))
                hit, row = hits(floor, t), second_row(floor, table, all_far[goal], t, goal)
                if hit:
                    self.assertEqual(paper, ("hit", hit[0]))
                elif row is not None:
                    self.assertEqual(paper, ("row", row))
                else:
                    self.assertEqual(paper, ("shut", tuple(g for g in places(floor) if t in all_far[g])))
                self.assertIs(check_calls(self, accepts_way, GOAL + ("value",), (floor, t, goal, paper)), True)
                words[paper[0]] += 1
        self.assertGreater(min(words.values()), 30, words)

    def second_accepts(self, floor, table, t, goal, value):
        if value[0] == "hit":
            return value[1] in hits(floor, t)
        if hits(floor, t):
            return False
        if value[0] == "row":
            for number in value[1]:
                t = table[t].get(number) if t is not None else None
            return t == goal
        lot = set(value[1])
        return (len(lot) == len(value[1]) and t in lot and goal not in lot
                and all(in_box(floor, s) and set(table[s].values()) <= lot for s in lot))

    def test_way_papers_of_any_writer(self):
        rng = random.Random(751)
        count = {}
        for floor in floors(730, 40):
            table = links(floor)
            all_far = all_away(floor)
            for _ in range(20):
                t, goal = rng.choice(places(floor)), rng.choice(places(floor))
                reached = [g for g in places(floor) if t in all_far[g]]
                row, here = [], t
                while here is not None and len(row) < 12 and (here != goal or rng.randint(0, 1)) and table[here]:
                    row.append(rng.choice(list(table[here])))
                    here = table[here][row[-1]]
                lot = list(reached)
                if rng.randint(0, 1):
                    # More shifts, from which nothing leads out of the lot.
                    lot += [s for s in places(floor) if s not in lot and s != goal and hits(floor, s)]
                if rng.randint(0, 2) == 0:
                    lot += [s for s in places(floor) if s not in lot and not table[s]][:2]
                if rng.randint(0, 2) == 0 and len(lot) > 1:
                    lot.remove(rng.choice(lot))
                if rng.randint(0, 4) == 0:
                    lot.append(lot[0])
                rng.shuffle(lot)
                values = [("row", tuple(row)), ("shut", tuple(lot)), ("shut", lot)]
                values += [("hit", i) for i in range(len(floor[0]))]
                for value in values:
                    expected = self.second_accepts(floor, table, t, goal, value)
                    told = check_calls(self, accepts_way, GOAL + ("value",), (floor, t, goal, value))
                    self.assertIs(told, expected, (floor, t, goal, value))
                    count[value[0], expected] = count.get((value[0], expected), 0) + 1
        self.assertEqual(len(count), 6)
        self.assertGreater(min(count.values()), 30, count)

    def test_kinds_of_way_papers(self):
        self.assertIs(accepts_way(FLOOR, (0, 0), (0, 0), ("row", ())), True)
        self.assertIs(accepts_way(FLOOR, (0, 0), (0, 0), ("row", (0, 2))), True)
        self.assertIs(accepts_way(FLOOR, (2, 0), (2, 0), ("row", ())), False)
        self.assertIs(accepts_way(FLOOR, (0, 0), (0, 0), ("row", (0, 2) * 200)), True)
        self.assertIs(accepts_way(FLOOR, (0, 0), (0, 0), ("row", (0, 2) * 201)), False)
        shut = [s for s in places(FLOOR) if not hits(FLOOR, s)]
        self.assertIs(accepts_way(FLOOR, (0, 0), (2, 0), ("shut", shut)), True)
        self.assertIs(accepts_way(FLOOR, (2, 0), (2, 1), ("shut", [(2, 0)])), False)
        self.assertIs(accepts_way(FLOOR, (2, 0), (0, 0), ("hit", 0)), True)
        self.assertIs(accepts_way(FLOOR, (2, 0), (0, 0), ("hit", False)), False)
        self.assertIs(accepts_way(FLOOR, (2, 0), (0, 0), ("hit", -1)), False)
        for args, good in (((FLOOR, (0, 0), (1, 0)), ("row", (0,))), ((FLOOR, (2, 0), (1, 0)), ("hit", 0)),
                           ((FLOOR, (0, 0), (2, 0)), ("shut", tuple(shut)))):
            self.assertIs(accepts_way(*args, good), True)
            for value in bent(good):
                # The lot may be a list.
                self.assertIs(accepts_way(*args, value), value == ("shut", list(shut)), value)
            for value in ODD_THINGS + (("shut", None), ("shut", {}), ("shut", "ab"), ("shut", [[0, 0]]), ("row", [0]),
                                       ("hit", None), ("shut", shut + [None]), ("shut", shut + [(0, 9)]), ("shut",)):
                self.assertIs(accepts_way(*args, value), False, value)

    def test_told_least_papers(self):
        for floor in floors(730, 30):
            table = links(floor)
            all_far = all_away(floor)
            for t, goal in itertools.product(places(floor)[::2], places(floor)[::3]):
                paper = check_calls(self, least_paper, GOAL, (floor, t, goal))
                row = second_row(floor, table, all_far[goal], t, goal)
                if row is None:
                    self.assertIsNone(paper)
                    continue
                lots = tuple(tuple(s for s in places(floor) if all_far[s].get(t, 99) <= k) for k in range(len(row)))
                self.assertEqual(paper, ("least", row, lots))
                self.assertIs(accepts_least(floor, t, goal, paper), True)

    def second_least(self, floor, table, t, goal, value):
        _, row, lots = value
        if not self.second_accepts(floor, table, t, goal, ("row", row)) or len(lots) != len(row):
            return False
        if any(len(set(lot)) != len(lot) or goal in lot for lot in lots) or (lots and t not in lots[0]):
            return False
        return all(set(table[s].values()) <= set(behind) for lot, behind in zip(lots, lots[1:]) for s in lot)

    def test_least_papers_of_any_writer(self):
        rng = random.Random(762)
        count = {True: 0, False: 0}
        for floor in floors(730, 40):
            table = links(floor)
            all_far = all_away(floor)
            for _ in range(12):
                t, goal = rng.choice(places(floor)), rng.choice(places(floor))
                paper = least_paper(floor, t, goal)
                if paper is None:
                    continue
                _, row, lots = paper
                far = all_far[goal]
                # Of the shifts that are too far from the goal as many as there can be.
                wide = [[s for s in places(floor) if far.get(s, 99) >= len(row) - k] for k in range(len(row))]
                values = [("least", row, wide), ("least", row, tuple(map(tuple, wide))), ("least", row, list(lots))]
                if wide:
                    k = rng.randrange(len(wide))
                    for lot in ([s for s in wide[k] if s != rng.choice(wide[k])], wide[k] + [goal],
                                wide[k] + wide[k][:1],
                                wide[k][::-1], []):
                        values.append(("least", row, wide[:k] + [lot] + wide[k + 1:]))
                    values += [("least", row, wide[1:]), ("least", row, wide + wide[-1:]), ("least", row[1:], wide[1:]),
                               ("least", row + (0,), wide + wide[-1:]), ("least", row[:-1], wide[:-1])]
                for value in values:
                    expected = self.second_least(floor, table, t, goal, value)
                    told = check_calls(self, accepts_least, GOAL + ("value",), (floor, t, goal, value))
                    self.assertIs(told, expected, (floor, t, goal, value))
                    count[expected] += 1
        self.assertGreater(min(count.values()), 100, count)

    def test_kinds_of_least_papers(self):
        for lots in ((), []):
            self.assertIs(accepts_least(FLOOR, (0, 0), (0, 0), ("least", (), lots)), True)
            self.assertIs(accepts_least(FLOOR, (2, 0), (2, 0), ("least", (), lots)), False)
            self.assertIs(accepts_least(FLOOR, (0, 0), (1, 0), ("least", (), lots)), False)
        self.assertIs(accepts_least(FLOOR, (0, 0), (0, 0), ("least", (0, 2), [[(0, 0)], [(1, 0)]])), False)
        self.assertIsNone(least_paper(FLOOR, (2, 0), (2, 0)))
        self.assertEqual(least_paper(FLOOR, (0, 0), (0, 0)), ("least", (), ()))
        args = (FLOOR, (0, 0), (1, 1))
        good = ("least", (0, 1), (((0, 0),), ((0, 0), (0, 1), (1, 0))))
        self.assertEqual(least_paper(*args), good)
        lists = 0
        for value in bent(good):
            told = accepts_least(*args, value)
            if told:
                # Lots may be lists.
                self.assertEqual([sorted(lot) for lot in value[2]], [sorted(lot) for lot in good[2]])
                lists += 1
        self.assertEqual(lists, 3)
        for value in ODD_THINGS + (("least", (0, 1), None), ("least", (0, 1), [None, None]),
                                   ("least", (0, 1), {0: 1, 1: 2}),
                                   ("least", (0, 1), ([(0, 0)], [(0, 0), (0, 1), [1, 0]])), ("least", [0, 1], good[2]),
                                   ("least", (0, 1), ([(0, 0)], [(0, 0), (0, 1), (1, 0), (0, 9)])), ("row", (0, 1))):
            self.assertIs(accepts_least(*args, value), False, value)


if __name__ == "__main__":
    unittest.main()
