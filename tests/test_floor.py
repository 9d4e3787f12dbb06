"""A live floor: deeds, the line, moments, undo, redo, trials and twins ([17], [0.2] (j))."""

import copy
import random
import unittest

from gridshapes.errors import (
    NoFloor, NoMenu, NoMoment, NoMove, NoPlace, NoShape, NothingBack, NoVector, ShapeError, TooMany)
from gridshapes.floor import Live
from gridshapes.ways import is_floor
from tests.floors import (
    BARRED, CROSS, FLOOR, OPEN, UPRIGHT, WRONG_FLOORS, WRONG_PLACES, all_away, do_deed, floors, hits, links, places,
    second_row)
from tests.reckon import BIG, GREAT, LEVEL, POINT, SQUARE, STRETCH, WEDGE, shifted
from tests.test_ways import WRONG_ROWS
from tests.wrong import ODD_THINGS, WRONG_SHAPES, WRONG_VECTORS, assert_raises_told, check_wrong, rows_of

FAR = shifted(WEDGE, (20, 20))
WRONG_NUMBERS = (None, True, False, 5, -1, "0", 0.0, (0,), [0], {}, 10 ** 80)


class Refused(Exception):
    """What the second floor refuses."""


class Second:
    """A live floor told apart from the program: a list of states and of deeds, all by copies."""

    def __init__(self, floor, t):
        self.states, self.line, self.least, self.again = [(floor, t)], [], 0, []

    def do(self, deed):
        floor, t = self.states[-1]
        state = self.behind(floor, t, deed)
        self.states.append(state)
        self.line.append(deed)
        self.again = []

    def behind(self, floor, t, deed):
        shapes = list(floor[0])
        if deed[0] == "row":
            table = links(floor)
            for number in deed[1]:
                if number not in table[t]:
                    raise Refused
                t = table[t][number]
            return floor, t
        if deed[0] == "lay":
            if len(shapes) == 5:
                raise Refused
            shapes.append(deed[1])
        else:
            if deed[1] >= len(shapes):
                raise Refused
            if deed[0] == "lift":
                del shapes[deed[1]]
            else:
                shapes[deed[1]] = shifted(shapes[deed[1]], deed[2])
        floor = (tuple(shapes),) + floor[1:]
        if hits(floor, t):
            raise Refused
        return floor, t

    def undo(self):
        if len(self.line) == self.least:
            raise Refused
        self.again.append((self.line.pop(), self.states.pop()))

    def redo(self):
        if not self.again:
            raise Refused
        deed, state = self.again.pop()
        self.line.append(deed)
        self.states.append(state)

    def saved(self):
        return copy.deepcopy((self.states, self.line, self.least, self.again))


def random_deed(rng, floor):
    kind = rng.randint(0, 5)
    if kind < 2:
        return ("row", tuple(rng.randrange(len(floor[2])) for _ in range(rng.randint(0, 3))))
    if kind == 2:
        return ("lift", rng.randint(0, 4))
    if kind == 3:
        return ("put", rng.randint(0, 4), (rng.randint(-2, 2), rng.randint(-2, 2)))
    return ("lay", shifted(rng.choice((SQUARE, WEDGE)), (rng.randint(-3, 6), rng.randint(-3, 6))))


class Begin(unittest.TestCase):
    def test_begin(self):
        live = Live(FLOOR, (1, 1))
        self.assertEqual((live.floor(), live.place(), live.deeds(), len(live)), (FLOOR, (1, 1), [], 0))
        self.assertEqual(live.was(0), (FLOOR, (1, 1)))
        self.assertEqual(Live(t=(1, 1), floor=FLOOR), live)

    def test_wrong(self):
        places_of = WRONG_PLACES + ((2, 0), (2, 1))
        check_wrong(self, Live, ("floor", "t"), (FLOOR, (0, 0)),
                    [rows_of(WRONG_FLOORS, NoFloor), rows_of(places_of, NoPlace)])
        self.assertEqual(Live(FLOOR, (1, 0)).place(), (1, 0))

    def test_equality(self):
        live = Live(FLOOR, (0, 0))
        self.assertTrue(live == Live(FLOOR, (0, 0)))
        self.assertFalse(live != Live(FLOOR, (0, 0)))
        self.assertFalse(live == Live(FLOOR, (0, 1)))
        self.assertFalse(live == Live(OPEN, (0, 0)))
        for value in ODD_THINGS + (FLOOR, (FLOOR, (0, 0))):
            self.assertFalse(live == value)
            self.assertTrue(live != value)
        one, other = Live(FLOOR, (0, 0)), Live(FLOOR, (0, 0))
        one.lead((0,))
        self.assertNotEqual(one, other)
        other.lead_to((1, 0))
        self.assertEqual(one, other)
        one.undo()
        self.assertNotEqual(one, other)
        # What can be done again does not count.
        self.assertEqual(one, Live(FLOOR, (0, 0)))
        one.lead((0, 2))
        other.lead((2,))
        self.assertNotEqual(one, other)
        self.assertEqual((one.floor(), one.place()), (other.floor(), other.place()))


class Deeds(unittest.TestCase):
    def test_each_deed(self):
        live = Live(FLOOR, (0, 0))
        self.assertIsNone(live.lead((0, 1)))
        self.assertIsNone(live.lead_to((4, 1)))
        self.assertIsNone(live.lay(FAR))
        self.assertIsNone(live.put(1, (-1, 2)))
        self.assertIsNone(live.lift(0))
        self.assertIsNone(live.lead(()))
        self.assertIsNone(live.put(0, (0, 0)))
        self.assertIsNone(live.lead_to((4, 1)))
        row = (1, 0, 0, 0, 3)
        self.assertEqual(live.deeds(),
                         [("row", (0, 1)), ("row", row), ("lay", FAR), ("put", 1, (-1, 2)), ("lift", 0), ("row", ()),
                                        ("put", 0, (0, 0)), ("row", ())])
        self.assertEqual(len(live), 8)
        laid = ((UPRIGHT, FAR),) + FLOOR[1:]
        moved = ((UPRIGHT, shifted(FAR, (-1, 2))),) + FLOOR[1:]
        left = ((shifted(FAR, (-1, 2)),),) + FLOOR[1:]
        states = [(FLOOR, (0, 0)), (FLOOR, (1, 1)), (FLOOR, (4, 1)), (laid, (4, 1)),
                  (moved, (4, 1))] + [(left, (4, 1))] * 4
        self.assertEqual([live.was(k) for k in range(9)], states)
        self.assertEqual((live.floor(), live.place()), states[-1])
        self.assertTrue(is_floor(live.floor()))
        for k in range(7, -1, -1):
            self.assertIsNone(live.undo())
            self.assertEqual((live.floor(), live.place()), states[k])
            self.assertEqual((len(live), len(live.deeds())), (k, k))
        for k in range(1, 9):
            self.assertIsNone(live.redo())
            self.assertEqual((live.floor(), live.place()), states[k])

    def test_lead_to_tells_the_first_row(self):
        for floor in floors(730, 40)[::3]:
            for t in places(floor)[::3]:
                for goal in places(floor)[::2]:
                    row = second_row(floor, links(floor), all_away(floor)[goal], t, goal)
                    if hits(floor, t):
                        continue
                    live = Live(floor, t)
                    if row is None:
                        assert_raises_told(self, NoPlace, goal, live.lead_to, goal)
                    else:
                        live.lead_to(goal)
                        self.assertEqual((live.deeds(), live.place()), ([("row", row)], goal))

    def test_refused_deeds_change_nothing(self):
        live = Live(BARRED, (0, 0))
        live.lead((1,))
        live.lead((1,))
        live.undo()
        five = Live(FLOOR, (0, 0))
        for _ in range(4):
            five.lay(FAR)
        five.lead((0,))
        five.undo()
        great = Live((((GREAT[0], (0, 0), (-BIG, BIG)),), SQUARE, CROSS, ((5, 5), (6, 6))), (5, 5))

        def check(subject, error, told, function, *args):
            before = (subject.floor(), subject.place(), subject.deeds(), len(subject))
            assert_raises_told(self, error, told, function, *args)
            self.assertEqual((subject.floor(), subject.place(), subject.deeds(), len(subject)), before)

        for row in WRONG_ROWS:
            check(live, NoMove, row, live.lead, row)
        for row in ((2,), (3, 3), (1, 1, 0, 0, 0), (0, 0), (1,) * 14):
            check(live, NoMove, row, live.lead, row)
        for goal in WRONG_PLACES + ((-1, 0), (15, 0)):
            if goal not in ((5, 0), (0, 5)):
                check(live, NoPlace, goal, live.lead_to, goal)
        for goal in ((2, 0), (14, 14), (5, 0)):
            check(live, NoPlace, goal, live.lead_to, goal)
        for number in WRONG_NUMBERS:
            check(live, NoMenu, number, live.lift, number)
            check(live, NoMenu, number, live.put, number, (0, 0))
            check(live, NoMenu, number, live.put, number, None)
        for shape in WRONG_SHAPES + (POINT, STRETCH, LEVEL):
            check(five, NoShape, shape, five.lay, shape)
            check(great, NoShape, shape, great.lay, shape)
        for shape in (FAR, SQUARE):
            with self.assertRaises(TooMany) as caught:
                five.lay(shape)
            self.assertEqual(caught.exception.most, 5)
        for shape in (shifted(SQUARE, (5, 5)), GREAT, shifted(WEDGE, (3, 4))):
            check(great, NoPlace, shape, great.lay, shape)
        for v in WRONG_VECTORS:
            check(live, NoVector, v, live.put, 0, v)
        for v in ((-1, 0), (0, -1), (0, 1), (BIG + 1, 0), (0, 10 * BIG)):
            check(great, NoVector, v, great.put, 0, v)
        for v in ((-2, 0), (-2, -7), (-2, 30)):
            check(live, NoPlace, v, live.put, 0, v)
        check(live, NoPlace, (-10, 0), live.put, 4, (-10, 0))
        over = (BIG, 0)
        check(great, NoPlace, over, great.put, 0, over)
        great.put(0, (1, 0))
        self.assertEqual(great.floor()[0][0][0], (1 - BIG, -BIG))
        # What can be done again stays, too.
        live.redo()
        self.assertEqual(live.place(), (0, 2))
        five.redo()
        self.assertEqual(five.place(), (1, 0))

    def test_touching_is_let(self):
        live = Live(OPEN, (1, 1))
        live.lay(shifted(SQUARE, (2, 1)))
        live.lay(shifted(SQUARE, (2, 2)))
        live.put(0, (-2, 0))
        live.put(0, (0, 1))
        with self.assertRaises(NoPlace) as caught:
            live.put(0, (1, -1))
        self.assertEqual(caught.exception.told, (1, -1))

    def test_moments(self):
        live = Live(FLOOR, (0, 0))
        live.lead((0,))
        live.lead((1,))
        live.undo()
        for value in (None, True, False, 2, -1, "0", 0.0, (0,), [0], 10 ** 80):
            assert_raises_told(self, NoMoment, value, live.was, value)
        self.assertEqual(live.was(moment=1), (FLOOR, (1, 0)))
        live.redo()
        self.assertEqual(live.was(2), (FLOOR, (1, 1)))

    def test_what_is_told_is_told_anew(self):
        live = Live(FLOOR, (0, 0))
        live.lead((0,))
        told = live.deeds()
        told.clear()
        self.assertEqual(live.deeds(), [("row", (0,))])
        self.assertEqual(len(live), 1)


class Back(unittest.TestCase):
    def test_both_ends(self):
        live = Live(FLOOR, (0, 0))
        for function, word in ((live.undo, "undo"), (live.redo, "redo")):
            with self.assertRaises(NothingBack) as caught:
                function()
            self.assertEqual(caught.exception.told, word)
        live.lead((0,))
        live.lead((1,))
        with self.assertRaises(NothingBack):
            live.redo()
        live.undo()
        live.undo()
        with self.assertRaises(NothingBack):
            live.undo()
        live.redo()
        self.assertEqual((live.place(), len(live)), ((1, 0), 1))
        # Another deed: what was taken back last is gone.
        live.lead((2,))
        with self.assertRaises(NothingBack) as caught:
            live.redo()
        self.assertEqual(caught.exception.told, "redo")
        self.assertEqual(live.deeds(), [("row", (0,)), ("row", (2,))])

    def test_against_copies(self):
        rng = random.Random(1100)
        done = 0
        for floor in floors(730, 40):
            free = [t for t in places(floor) if not hits(floor, t)]
            if not free:
                continue
            t = rng.choice(free)
            live, second = Live(floor, t), Second(floor, t)
            for _ in range(25):
                kind = rng.randint(0, 5)
                try:
                    if kind == 0:
                        second.undo()
                    elif kind == 1:
                        second.redo()
                    else:
                        deed = random_deed(rng, second.states[-1][0])
                        second.do(deed)
                except Refused:
                    with self.assertRaises((ShapeError, TooMany)):
                        live.undo() if kind == 0 else live.redo() if kind == 1 else do_deed(live, deed)
                else:
                    live.undo() if kind == 0 else live.redo() if kind == 1 else do_deed(live, deed)
                    done += 1
                self.check_same(live, second)
        self.assertGreater(done, 200)

    def check_same(self, live, second):
        self.assertEqual((live.floor(), live.place()), second.states[-1])
        self.assertEqual(live.deeds(), second.line)
        self.assertEqual([live.was(k) for k in range(len(second.states))], second.states)
        self.assertEqual(len(live), len(second.line) - second.least)
        twin = live.twin()
        for deed, state in second.again[::-1]:
            twin.redo()
            self.assertEqual((twin.deeds()[-1], twin.was(len(twin.deeds()))), (deed, state))
        with self.assertRaises(NothingBack):
            twin.redo()


class Trials(unittest.TestCase):
    def begun(self):
        live = Live(FLOOR, (0, 0))
        live.lead((0,))
        live.lead((1,))
        live.undo()
        return live

    def check_as_begun(self, live):
        self.assertEqual((live.deeds(), live.place(), live.floor(), len(live)), ([("row", (0,))], (1, 0), FLOOR, 1))
        live.redo()
        self.assertEqual(live.place(), (1, 1))

    def test_not_kept(self):
        for kept in (False, 1, "yes", None, [1], 0):
            live = self.begun()
            seen = []

            def guest(here):
                seen.append(here is live)
                here.lift(0)
                here.lead((0, 0))
                seen.append((here.deeds(), len(here), here.was(3), here.was(0)))
                return "told"
            self.assertEqual(live.trying(guest, kept=kept), "told")
            line = [("row", (0,)), ("lift", 0), ("row", (0, 0))]
            self.assertEqual(seen, [True, (line, 2, (OPEN, (3, 0)), (FLOOR, (0, 0)))])
            self.check_as_begun(live)
        live = self.begun()
        live.trying(lambda here: here.lift(0))
        self.check_as_begun(live)

    def test_kept(self):
        live = self.begun()

        def guest(here):
            here.lift(0)
            here.lead((0, 0))
            here.lead((1,))
            here.undo()
            return here
        self.assertIs(live.trying(guest, kept=True), live)
        together = ("together", (("lift", 0), ("row", (0, 0))))
        self.assertEqual((live.deeds(), len(live), live.place()), ([("row", (0,)), together], 2, (3, 0)))
        self.assertEqual([live.was(k) for k in range(3)], [(FLOOR, (0, 0)), (FLOOR, (1, 0)), (OPEN, (3, 0))])
        with self.assertRaises(NothingBack):
            live.redo()
        with self.assertRaises(NoMoment):
            live.was(3)
        live.undo()
        self.assertEqual((live.deeds(), live.place(), live.floor()), ([("row", (0,))], (1, 0), FLOOR))
        live.redo()
        self.assertEqual((live.deeds()[-1], live.place(), live.floor()), (together, (3, 0), OPEN))
        one = Live(FLOOR, (0, 0))
        one.trying(lambda here: here.lead((0,)), kept=True)
        self.assertEqual(one.deeds(), [("together", (("row", (0,)),))])

    def test_kept_without_deeds(self):
        live = self.begun()
        self.assertEqual(live.trying(lambda here: 7, kept=True), 7)
        self.check_as_begun(live)
        live = self.begun()
        live.trying(lambda here: (here.lift(0), here.undo()), kept=True)
        self.check_as_begun(live)

    def test_left_by_an_error(self):
        for error in (ValueError("x"), NoMove(3), KeyboardInterrupt(), TooMany(5)):
            for kept in (True, False):
                live = self.begun()

                def guest(here):
                    here.lift(0)
                    here.lead((0, 0))
                    raise error
                with self.assertRaises(type(error)) as caught:
                    live.trying(guest, kept=kept)
                self.assertIs(caught.exception, error)
                self.check_as_begun(live)
        live = self.begun()
        with self.assertRaises(NoMenu):
            live.trying(lambda here: (here.lift(0), here.lift(0)), kept=True)
        self.check_as_begun(live)

    def test_only_what_is_of_the_trial(self):
        live = self.begun()

        def guest(here):
            self.assertEqual(len(here), 0)
            for function in (here.undo, here.redo):
                with self.assertRaises(NothingBack):
                    function()
            here.lead((1,))
            self.assertEqual(len(here), 1)
            here.undo()
            with self.assertRaises(NothingBack):
                here.undo()
            here.redo()
            self.assertEqual(here.deeds(), [("row", (0,)), ("row", (1,))])
        live.trying(guest)
        self.check_as_begun(live)

    def test_one_in_another(self):
        live = self.begun()

        def inner(here):
            self.assertEqual(len(here), 0)
            with self.assertRaises(NothingBack):
                here.undo()
            here.lead((0,))
            here.lead((0,))
            here.undo()
            self.assertEqual(here.deeds(), [("row", (0,)), ("lift", 0), ("row", (0,))])
            return 1

        def outer(here):
            here.lift(0)
            here.lead((1,))
            here.undo()
            here.trying(inner)
            self.assertEqual((here.deeds(), len(here)), ([("row", (0,)), ("lift", 0)], 1))
            here.redo()
            here.undo()
            here.trying(inner, kept=True)
            self.assertEqual((here.deeds()[1:], len(here)), ([("lift", 0), ("together", (("row", (0,)),))], 2))
            with self.assertRaises(NothingBack):
                here.redo()
            here.undo()
            here.redo()
            with self.assertRaises(NoMove):
                here.trying(lambda guest: guest.lead((9,)), kept=True)
            return 2
        self.assertEqual(live.trying(outer, kept=True), 2)
        self.assertEqual(live.deeds()[1:], [("together", (("lift", 0), ("together", (("row", (0,)),))))])
        self.assertEqual((live.place(), live.floor(), len(live)), ((2, 0), OPEN, 2))
        live.undo()
        self.assertEqual((live.place(), live.floor()), ((1, 0), FLOOR))

    def test_against_copies(self):
        rng = random.Random(1110)
        kept_ones = 0
        for floor in floors(730, 40):
            free = [t for t in places(floor) if not hits(floor, t)]
            if not free:
                continue
            live, second = Live(floor, free[0]), Second(floor, free[0])
            self.run_some(rng, live, second, 3)
            kept_ones += sum(deed[0] == "together" for deed in live.deeds())
        self.assertGreater(kept_ones, 5)

    def run_some(self, rng, live, second, depth):
        for _ in range(rng.randint(2, 8)):
            kind = rng.randint(0, 7 if depth else 5)
            if kind > 5:
                self.run_trial(rng, live, second, depth)
            else:
                deed = random_deed(rng, second.states[-1][0])
                try:
                    second.undo() if kind == 0 else second.redo() if kind == 1 else second.do(deed)
                except Refused:
                    with self.assertRaises((ShapeError, TooMany)):
                        live.undo() if kind == 0 else live.redo() if kind == 1 else do_deed(live, deed)
                else:
                    live.undo() if kind == 0 else live.redo() if kind == 1 else do_deed(live, deed)
            Back.check_same(self, live, second)

    def run_trial(self, rng, live, second, depth):
        saved = second.saved()
        kept, fails = rng.random() < 0.6, rng.random() < 0.2
        begin = len(second.line)
        second.least, second.again = begin, []

        def guest(here):
            self.run_some(rng, here, second, depth - 1)
            if fails:
                raise Refused
            return "told"
        if fails:
            with self.assertRaises(Refused):
                live.trying(guest, kept=kept)
        else:
            self.assertEqual(live.trying(guest, kept=kept), "told")
        deeds, state = tuple(second.line[begin:]), second.states[-1]
        second.states, second.line, second.least, second.again = saved
        if kept and deeds and not fails:
            second.line.append(("together", deeds))
            second.states.append(state)
            second.again = []


class Twins(unittest.TestCase):
    def test_goes_on_by_itself(self):
        live = Live(FLOOR, (0, 0))
        live.lead((0,))
        live.lead((1,))
        live.lift(0)
        live.undo()
        twin = live.twin()
        self.assertEqual(twin, live)
        self.assertIsNot(twin, live)
        self.assertIsInstance(twin, Live)
        self.assertEqual(len(twin), 2)
        twin.redo()
        self.assertEqual((twin.floor(), live.floor()), (OPEN, FLOOR))
        live.undo()
        self.assertEqual((len(twin), len(live)), (3, 1))
        twin.lead((0,))
        with self.assertRaises(NothingBack):
            twin.redo()
        live.redo()
        live.redo()
        self.assertEqual((live.floor(), live.place(), twin.place()), (OPEN, (1, 1), (2, 1)))
        for _ in range(4):
            twin.undo()
        self.assertEqual((twin.place(), twin.floor()), ((0, 0), FLOOR))

    def test_made_in_a_trial(self):
        live = Live(FLOOR, (0, 0))
        live.lead((0,))
        live.lead((1,))
        live.undo()
        twins = []

        def guest(here):
            here.lift(0)
            here.lead((0,))
            here.undo()
            twins.append(here.twin())
            self.assertEqual(twins[0], here)
            self.assertEqual((len(here), len(twins[0])), (1, 2))
            twins[0].redo()
            self.assertEqual((here.place(), twins[0].place()), ((1, 0), (2, 0)))
            twins.append(here.twin())
        live.trying(guest)
        twin, other = twins
        self.assertEqual(twin.deeds(), [("row", (0,)), ("lift", 0), ("row", (0,))])
        # Out of any trial all deeds can be taken back, and what was taken back ahead of the trial not be done again.
        for _ in range(3):
            twin.undo()
        self.assertEqual((twin.floor(), twin.place(), len(twin)), (FLOOR, (0, 0), 0))
        other.redo()
        self.assertEqual(other.place(), (2, 0))
        with self.assertRaises(NothingBack):
            other.redo()
        self.assertEqual((live.place(), len(live)), ((1, 0), 1))
        live.redo()
        self.assertEqual(live.place(), (1, 1))

    def test_a_twin_in_the_trial_can_be_tried(self):
        live = Live(OPEN, (0, 0))

        def guest(here):
            return here.twin().trying(lambda twin: (twin.lead((0,)), here.lead((1,)), twin.place()))
        self.assertEqual(live.trying(guest, kept=True)[2], (1, 0))
        self.assertEqual(live.deeds(), [("together", (("row", (1,)),))])


if __name__ == "__main__":
    unittest.main()
