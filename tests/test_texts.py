"""Values, things and live floors as texts ([16], [0.2] (j))."""

import random
import re
import unittest

from gridshapes.claims import told_claim
from gridshapes.errors import BadText, NoFloor, NoThing
from gridshapes.floor import Live
from gridshapes.texts import (
    is_thing, is_value, lines_due, read_live, read_text, read_value, write_live, write_text, write_value)
from tests.floors import BARRED, BOX, FLOOR, OPEN, WRONG_FLOORS, do_deed, floors, places
from tests.gridmaps import GREAT_MAP, MAPS, WRONG_MAPS
from tests.outlines import BENT, COMB, DART
from tests.reckon import (
    BIG, FINE_POINT, FINE_STRETCH, FINE_TRIANGLE, GREAT, SHAPES, SQUARE, WEDGE, cornered, random_shape)
from tests.test_claims import all_questions
from tests.test_cuts import WRONG_WALLS
from tests.wrong import (
    ODD_THINGS, WRONG_FINES, WRONG_LOOPS, WRONG_POINTS, WRONG_SHAPES, assert_raises_told, check_calls, check_wrong,
    rows_of)

MOST = 10 ** 200 - 1
# Numbers of just 200 figures and of just 201, the least and the greatest of each among them, by hand.
LONG = ("1" + "0" * 199, "1" + "0" * 198 + "1", "8" * 200, "9" * 199 + "8", "9" * 200)
TOO_LONG = ("1" + "0" * 200, "1" + "0" * 199 + "1", "8" * 201, "9" * 200 + "8", "9" * 201)
DEEP = ()
for _ in range(11):
    DEEP = (DEEP,)
TOO_DEEP = (DEEP,)

VALUES = (
    0, 1, -1, 7, 10, -205, MOST, -MOST, None, "a", "abcdefghijkl", "z", (), ((),), (1, 2), (None, "x", -3, ((), (4,))),
    (0,) * 400, ((0,) * 400,) * 3, DEEP, (DEEP[0], DEEP[0]), ("shut", ((0, 0), (1, 0))),
    (0, (0, (0, (0, ("row", (1, 2)))))))

WRONG_VALUES = (
    True, False, 10 ** 200, -10 ** 200, "", "A", "aB", "a b", "a1", "abcdefghijklm", "a-b", ".", "(", ")", "-", "\n",
    "a\n",
    b"a", [], {}, [1], 1.0, (True,), (1, [2]), (0,) * 401, ((0,) * 401,), TOO_DEEP, (TOO_DEEP,), (10 ** 200,), ("A",),
    (None, (None, (None, False))), {1: 2}, object, 10 ** 4000)

BORDERS = (((1, 0), (1, 2)), ((-3, 7), (-5, 1)), ((10 ** 150, -1), (10 ** 190, 3)))

THINGS = (
    [("value", value) for value in VALUES] + [("point", p) for p in ((0, 0), (-3, 7), (BIG, -BIG))]
    + [("round", shape) for shape in SHAPES + (GREAT, cornered(60))]
    + [("fine", shape) for shape in (None, FINE_POINT, FINE_STRETCH, FINE_TRIANGLE)]
    + [("loop", loop) for loop in (SQUARE, SQUARE[::-1], BENT, COMB, ((0, 0), (0, 0), (0, 0)))]
    + [("pieces", pieces) for pieces in ((SQUARE,), (BENT, DART, COMB[::-1]), (SQUARE,) * 20)]
    + [("walls", borders) for borders in (BORDERS[:1], BORDERS, BORDERS * 20)]
    + [("map", grid) for grid in MAPS + (GREAT_MAP[:4] + (MOST, -MOST),)]
    + [("floor", floor) for floor in (FLOOR, OPEN, BARRED)])

# For each thing its text, by hand.
TEXTS = (
    (("value", 5), "value 5"), (("value", None), "value ."), (("value", ()), "value ( )"),
    (("value", "abc"), "value abc"),
    (("value", ("row", (0, -12), None)), "value ( row ( 0 -12 ) . )"), (("point", (3, -4)), "point 3 -4"),
    (("round", WEDGE), "round 0 0 4 0 0 3"), (("round", ((-3, 9),)), "round -3 9"), (("fine", None), "fine ."),
    (("fine", FINE_TRIANGLE), "fine 0 0 5/3 0 0 5/4"), (("fine", FINE_POINT), "fine -7/3 1/6"),
    (("loop", SQUARE[::-1]), "loop 0 1 1 1 1 0 0 0"), (("map", (1, 0, 0, -1, 5, -6)), "map 1 0 0 -1 5 -6"),
    (("pieces", (SQUARE, WEDGE)), "pieces\nloop 0 0 1 0 1 1 0 1\nloop 0 0 4 0 0 3"),
    (("walls", (((1, 0), (1, 2)), ((-3, 7), (-5, 1)))), "walls\nwall 1 0 1/2\nwall -3 7 -5"),
    (("floor", FLOOR), "floor\nlies 2 0 3 0 3 2 2 2\nmover 0 0 1 0 1 1 0 1\nmove 1 0\nmove 0 1\nmove -1 0\nmove 0 -1\n"
     "box 0 0 4 4"),
    (("floor", ((), WEDGE, ((2, -1),), ((-1, -2), (-1, 0)))), "floor\nmover 0 0 4 0 0 3\nmove 2 -1\nbox -1 -2 -1 0"))

FLOOR_TEXT = TEXTS[-2][1]
NUMBERS = ("00", "01", "-0", "-01", "+1", "1.", "1.0", "1_0", "0x1", "", "-", "--1", "1-", "1/1", "a", ".", "(",
           "9" * 201,
           "-" + "9" * 201, "1e3")


def signed(words):
    """Words of numbers, and those of the numbers below 0 beside them."""
    return [sign + word for word in words for sign in ("", "-")]


def with_lines(word):
    """Pairs of a value with a number in it, and its line."""
    number = deepest = int(word)
    for _ in range(12):
        deepest = (deepest,)
    return ((number, word), ((number,), f"( {word} )"), (("to", (0, number), None), f"( to ( 0 {word} ) . )"),
            (deepest, "( " * 12 + word + " )" * 12))


def with_texts(word):
    """Pairs of a thing with a number in it, and its text."""
    number = int(word)
    return [(("value", value), f"value {line}") for value, line in with_lines(word)] + [
        (("map", (1, 0, 0, 1, number, 0)), f"map 1 0 0 1 {word} 0"),
        (("map", (1, 0, 0, -1, 7, number)), f"map 1 0 0 -1 7 {word}"),
        (("fine", (((number, 1), (0, 1)),)), f"fine {word} 0"),
        (("walls", (((1, number), (1, 2)),)), f"walls\nwall 1 {word} 1/2"),
        (("walls", (((number, 1), (1, 2)),)), f"walls\nwall {word} 1 1/2"),
        (("walls", (((1, 0), (number, 1)),)), f"walls\nwall 1 0 {word}")]


def second_words(value):
    if isinstance(value, tuple):
        return " ".join(["("] + [second_words(item) for item in value] + [")"])
    return "." if value is None else str(value)


def random_value(rng, depth):
    kind = rng.randint(0, 5 if depth else 3)
    if kind == 0:
        return rng.choice((None, 0, rng.randint(-9, 9), rng.randint(-MOST, MOST)))
    if kind < 4:
        return rng.choice(("".join(rng.choices("abcxyz", k=rng.randint(1, 12))), rng.randint(-50, 50)))
    return tuple(random_value(rng, depth - 1) for _ in range(rng.randint(0, 4)))


class Values(unittest.TestCase):
    def test_is_value(self):
        for value in VALUES:
            self.assertIs(check_calls(self, is_value, ("value",), (value,)), True, value)
        for value in WRONG_VALUES:
            self.assertIs(is_value(value), False)
        deep = ()
        for _ in range(5000):
            deep = (deep,)
        self.assertIs(is_value(deep), False)

    def test_written_and_read(self):
        rng = random.Random(1000)
        for value in VALUES + tuple(random_value(rng, 11) for _ in range(300)):
            line = check_calls(self, write_value, ("value",), (value,))
            self.assertEqual(line, second_words(value))
            told = check_calls(self, read_value, ("line",), (line,))
            self.assertEqual(told, value)
            self.assertEqual(repr(told), repr(value))
        self.assertEqual(write_value(("shut", ((0, 0), (1, 0)))), "( shut ( ( 0 0 ) ( 1 0 ) ) )")

    def test_figures(self):
        self.assertEqual([len(word) for word in LONG + TOO_LONG], [200] * 5 + [201] * 5)
        for word in signed(LONG):
            for value, line in with_lines(word):
                self.assertIs(is_value(value), True, line)
                self.assertEqual(write_value(value), line)
                self.assertEqual(read_value(line), value)
        for word in signed(TOO_LONG):
            for value, line in with_lines(word):
                self.assertIs(is_value(value), False, line)
                assert_raises_told(self, NoThing, value, write_value, value)
                assert_raises_told(self, BadText, 0, read_value, line)

    def test_claims_are_values(self):
        for question, _ in all_questions():
            claim = told_claim(question)
            self.assertIs(is_value(claim), True)
            self.assertEqual(read_value(write_value(claim)), claim)

    def test_wrong(self):
        check_wrong(self, write_value, ("value",), (5,), [rows_of(WRONG_VALUES, NoThing)])
        wrong = [(value, BadText, None) for value in ODD_THINGS + ([1, 2], 10 ** 100) if not isinstance(value, str)]
        zero = ("", " ", "5 ", " 5", "5  6", "5 6", "( 5", "5 )", ")", "(", "( ( )", ") (", "( ) ( )", "()", "(5)",
                "( 5 ) 6",
                "A", "aB", "abcdefghijklm", "a.", "..", "( . . )x", "5\t", "\t", "[ ]", "( 5 , 6 )", "\n", "\n5", "A\n",
                "5 \n6")
        wrong += [(line, BadText, 0) for line in zero]
        wrong += [(word, BadText, 0) for word in NUMBERS if word not in (".", "a")]
        wrong += [(f"( {word} )", BadText, 0) for word in NUMBERS if word not in (".", "a")]
        wrong += [(line, BadText, 1) for line in ("5\n", "5\n6", "5\n\n", "( )\n( )", "( 5 )\nx\ny")]
        # What fits, but stands for no value.
        wrong += [("( " + "0 " * 401 + ")", BadText, None), ("( " * 13 + ") " * 12 + ")", BadText, None),
                  ("( " * 5000 + ") " * 4999 + ")", BadText, None)]
        check_wrong(self, read_value, ("line",), ("5",), [wrong])
        self.assertEqual(read_value("( " * 12 + ") " * 11 + ")"), DEEP)
        self.assertEqual(read_value("( " + "0 " * 400 + ")"), (0,) * 400)
        self.assertEqual(read_value("9" * 200), MOST)
        # A second line comes behind the first one, but ahead of what is no value.
        assert_raises_told(self, BadText, 1, read_value, "( " + "0 " * 401 + ")\n5")


WRONG_THINGS = ODD_THINGS + (
    ("value",), ("value", 1, 2), ["value", 1], ("values", 1), ("Value", 1), (b"value", 1), (None, 1), ((), 1), ([], 1),
    ("", 1),
    ("wall", BORDERS[0]), ("lies", SQUARE), ("pieces", ()), ("pieces", [SQUARE]), ("pieces", (SQUARE,) * 21),
    ("pieces", (list(SQUARE),)), ("pieces", SQUARE), ("pieces", (SQUARE, None)), ("walls", ()),
    ("walls", BORDERS * 20 + BORDERS[:1]),
    ("walls", list(BORDERS)), ("walls", BORDERS[0]), ("loop", list(SQUARE)), ("round", None), ("round", list(SQUARE)),
    ("floor", None), ("point", [0, 0]), ("point", ((0, 1), (0, 1))), ("fine", SQUARE), ("map", None), ("live", FLOOR),
    ("box", BOX)) + tuple(("value", value) for value in WRONG_VALUES) + tuple(
    ("point", value) for value in WRONG_POINTS) + tuple(("round", value) for value in WRONG_SHAPES) + tuple(
    ("fine", value) for value in WRONG_FINES) + tuple(("loop", value) for value in WRONG_LOOPS) + tuple(
    ("map", value) for value in WRONG_MAPS) + tuple(("floor", value) for value in WRONG_FLOORS) + tuple(
    ("walls", (value,)) for value in WRONG_WALLS)


class Things(unittest.TestCase):
    def test_is_thing(self):
        for thing in THINGS:
            self.assertIs(check_calls(self, is_thing, ("value",), (thing,)), True, thing)
        for value in WRONG_THINGS:
            self.assertIs(is_thing(value), False, value)

    def test_texts_by_hand(self):
        for thing, text in TEXTS:
            self.assertEqual(check_calls(self, write_text, ("thing",), (thing,)), text)
            self.assertEqual(check_calls(self, read_text, ("text",), (text,)), thing)
        self.assertEqual({thing[0] for thing, _ in TEXTS},
                         set("value point round fine loop pieces walls map floor".split()))

    def test_written_and_read(self):
        rng = random.Random(1010)
        things = list(THINGS) + [("floor", floor) for floor in floors(1011, 40)]
        things += [("round", random_shape(rng, 50)) for _ in range(40)]
        for thing in things:
            text = write_text(thing)
            told = read_text(text)
            self.assertEqual(told, thing)
            self.assertEqual(repr(told), repr(thing))
            self.assertEqual(write_text(told), text)
            self.assertEqual(check_calls(self, lines_due, ("text",), (text,)), text.count("\n") + 1)
            self.assertRegex(text, r"\A[a-z0-9()./ \n-]+\Z")
            for line in text.split("\n"):
                self.assertRegex(line, r"\A[^ ]+( [^ ]+)*\Z")

    def test_numbers_of_two_hundred_figures(self):
        for thing in (("map", (1, 0, 0, 1, 10 ** 200, 0)), ("walls", (((10 ** 200, 1), (0, 1)),)),
                      ("fine", (((1, 10 ** 200), (0, 1)),))):
            # Such a number has no text.
            self.assertIs(is_thing(thing), False)
        for word in signed(LONG):
            for thing, text in with_texts(word):
                self.assertIs(is_thing(thing), True, text)
                self.assertEqual(write_text(thing), text)
                self.assertEqual(read_text(text), thing)
                self.assertEqual(lines_due(text), text.count("\n") + 1)
        for word in signed(TOO_LONG):
            for thing, text in with_texts(word):
                self.assertIs(is_thing(thing), False, text)
                assert_raises_told(self, NoThing, thing, write_text, thing)
                line = text.count("\n")
                assert_raises_told(self, BadText, line, read_text, text)
                self.assertEqual(lines_due(text), line)
        self.assertEqual(read_text(f"map 1 0 0 1 {MOST} -{MOST}"), ("map", (1, 0, 0, 1, MOST, -MOST)))
        self.assertEqual(read_text(f"fine 1/{MOST} -{MOST}"), ("fine", (((1, MOST), (-MOST, 1)),)))

    def test_wrong(self):
        check_wrong(self, write_text, ("thing",), (("value", 5),), [rows_of(WRONG_THINGS, NoThing)])
        wrong = [(value, BadText, None) for value in ODD_THINGS if not isinstance(value, str)]
        check_wrong(self, read_text, ("text",), ("value 5",), [wrong])
        check_wrong(self, lines_due, ("text",), ("value 5",), [wrong])

    def check_bad(self, told, *texts):
        for text in texts:
            assert_raises_told(self, BadText, told, read_text, text)
            many = len(text.split("\n")) if told is None else told
            self.assertEqual(lines_due(text), many, text)

    def test_first_lines_that_do_not_fit(self):
        self.check_bad(0, "", " ", "\n", "5", "values 5", "Value 5", " value 5", "value 5 ", "value  5", "value",
                       "value 5 6",
                       "value ( 5", "value ( 5 ) )", "point", "point 1", "point 1 2 3", "point 1 a", "point 1/2 3",
                       "round",
                       "round 1", "round 1 2 3", "round .", "fine", "fine 1", "fine 1 2 3", "fine . .", "fine . 1",
                       "fine 2/4 0",
                       "fine 1/1 0", "fine 1/0 0", "fine 0/2 0", "fine 1/-2 0", "fine 1/2/3 0", "fine /2 0",
                       "fine 1/ 0",
                       "fine -0/3 0", "fine 01/2 0", "fine 1/02 0", "loop 0 0 1 0", "loop 0 0 1 0 0", "loop", "map",
                       "map 1 0 0 1 0", "map 1 0 0 1 0 0 0", "map 1 0 0 1 0 1/2", "pieces 1", "walls 1", "floor 1",
                       "lies 0 0 1 0 0 1",
                       "wall 1 0 1", "mover 0 0 1 0 0 1", "move 1 0", "box 0 0 1 1", "at 0 0", "row 0", "pieces ",
                       "deeds", ".",
                       "( )", "together 1", "lift 0")
        for word in NUMBERS:
            self.check_bad(0, f"point {word} 1", f"point 1 {word}", f"round 0 0 {word} 0 0 1", f"map 1 0 0 1 0 {word}",
                           f"loop 0 0 1 0 {word} 1")
            if word not in (".", "a"):
                self.check_bad(0, f"value {word}", f"value ( {word} )")
            self.check_bad(0, f"fine {word} 0" if word != "." else "fine . 0")
            self.check_bad(1, f"walls\nwall {word} 0 1", f"walls\nwall 0 {word} 1", f"walls\nwall 1 0 {word}",
                           f"pieces\nloop 0 0 {word} 1 0 1", f"floor\nlies {word} 0", f"floor\nmover {word} 0")

    def test_later_lines(self):
        self.check_bad(1, "value 5\n", "value 5\nvalue 5", "point 0 0\n\n", "pieces", "walls", "floor", "pieces\n",
                       "pieces\nround 0 0",
                       "walls\nwall 1 0", "walls\nwall 1 0 1 1", "walls\nloop 0 0 1 0 0 1", "pieces\nwall 1 0 1",
                       "floor\nmove 1 0",
                       "floor\nbox 0 0 1 1", "floor\n", "floor\nfloor", "floor\nlies 0", "floor\nlies",
                       "round 0 0\nround 0 0",
                       "floor\nlies 0 0 1", "pieces\npieces", "pieces\nloop 0 0 1 0", "fine .\nfine .", "floor\nmover")
        self.check_bad(2, "floor\nmover 0 0 1 0 0 1", "floor\nmover 0 0 1 0 0 1\nbox 0 0 1 1",
                       "floor\nlies 0 0\nmove 1 0",
                       "floor\nlies 0 0 1 0 0 1\n", "floor\nmover 0 0 1 0 0 1\nmover 0 0 1 0 0 1", "floor\nlies 0 0",
                       "floor\nmover 0 0 1 0 0 1\nlies 0 0 1 0 0 1", "floor\nmover 0 0\nmove 1",
                       "pieces\nloop 0 0 1 0 0 1\n",
                       "pieces\nloop 0 0 1 0 0 1\nround 0 0", "walls\nwall 1 0 1\nwall 1 0 2/4",
                       "floor\nmover 0 0\nmove 1 0 0")
        self.check_bad(3, "floor\nmover 0 0 1 0 0 1\nmove 1 0", "floor\nmover 0 0 1 0 0 1\nmove 1 0\nlies 0 0",
                       "floor\nmover 0 0 1 0 0 1\nmove 1 0\nbox 0 0 1", "floor\nmover 0 0 1 0 0 1\nmove 1 0\nmover 0 0",
                       "floor\nmover 0 0 1 0 0 1\nmove 1 0\nbox 0 0 1 1 1", "floor\nmover 0 0\nmove 1 0\nat 0 0")
        self.check_bad(4, "floor\nmover 0 0 1 0 0 1\nmove 1 0\nbox 0 0 1 1\n",
                       "floor\nmover 0 0 1 0 0 1\nmove 1 0\nbox 0 0 1 1\nbox 0 0 1 1",
                       "floor\nmover 0 0 1 0 0 1\nmove 1 0\nmove 0 1\nmover 0 0")

    def test_lines_left_out_or_told_twice(self):
        for thing, text in TEXTS:
            lines = text.split("\n")
            for k in range(len(lines)):
                shorter, longer = "\n".join(lines[:k] + lines[k + 1:]), "\n".join(lines[:k + 1] + lines[k:])
                for changed in (shorter, longer):
                    try:
                        told = read_text(changed)
                    except BadText as error:
                        self.assertIn(error.told, list(range(len(lines) + 1)) + [None])
                        continue
                    self.assertEqual(write_text(told), changed)
                    self.assertNotEqual(told, thing)

    def test_what_fits_but_is_no_thing(self):
        self.check_bad(None, "round 0 0 0 0", "round 0 0 0 1 1 0", f"point {10 ** 60 + 1} 0",
                       "round " + "0 " * 121 + "0",
                       "loop " + "0 " * 25 + "0", "map 1 0 0 2 0 0", "fine 0 0 0 0", "fine 1 0 0 0",
                       "walls\nwall 0 0 1",
                       "walls" + "\nwall 1 0 1" * 61, "pieces" + "\nloop 0 0 1 0 0 1" * 21,
                       "value ( " + "0 " * 401 + ")",
                       "value " + "( " * 13 + ") " * 12 + ")", "pieces\nloop " + "0 " * 25 + "0",
                       "floor\nmover 0 0\nmove 1 0\nbox 0 0 1 1", "floor\nmover 0 0 1 0 0 1\nmove 0 0\nbox 0 0 1 1",
                       "floor\nmover 0 0 1 0 0 1\nmove 1 0\nmove 1 0\nbox 0 0 1 1",
                       "floor\nmover 0 0 1 0 0 1\nmove 1 0\nbox 0 0 15 1",
                       "floor" + "\nlies 0 0 1 0 0 1" * 6 + "\nmover 0 0 1 0 0 1\nmove 1 0\nbox 0 0 1 1",
                       "floor\nlies 0 0\nmover 0 0 1 0 0 1\nmove 1 0\nbox 0 0 1 1",
                       "floor\nmover 0 0 1 0 0 1" + "".join(f"\nmove {k} 1" for k in range(9)) + "\nbox 0 0 1 1",
                       "floor\nmover 0 0 1 0 0 1\nmove 1 0\nbox 0 0 -1 1")
        self.assertEqual(read_text("loop 0 0 0 0 0 0"), ("loop", ((0, 0),) * 3))

    def test_at_does_not_fit_a_thing(self):
        assert_raises_told(self, BadText, 8, read_text, FLOOR_TEXT + "\nat 0 0")
        self.assertEqual(lines_due(FLOOR_TEXT + "\nat 0 0"), 9)
        assert_raises_told(self, BadText, 8, read_text, FLOOR_TEXT + "\nat 0 0\nrow 0")
        assert_raises_told(self, BadText, 9, read_live, FLOOR_TEXT + "\nat 0 0\nat 0 0")
        self.assertEqual(lines_due(FLOOR_TEXT + "\nat 0 0\nat 0 0"), 9)


BEGIN = FLOOR_TEXT + "\nat 0 0"


def live_by(*deeds):
    live = Live(FLOOR, (0, 0))
    for deed in deeds:
        do_deed(live, deed)
    return live


class LiveTexts(unittest.TestCase):
    def test_by_hand(self):
        self.assertEqual(write_live(live_by()), BEGIN)
        self.assertEqual(read_live(BEGIN), live_by())
        far = tuple((x + 10, y) for x, y in WEDGE)
        live = live_by(("row", (0, 1)), ("row", ()), ("lay", far), ("put", 1, (-3, 5)), ("lift", 0),
                       ("together", (("row", (1,)), ("together", (("lift", 0),)), ("lay", far))), ("row", (3,)))
        text = (BEGIN + "\nrow 0 1\nrow\nlay 10 0 14 0 10 3\nput 1 -3 5\nlift 0\ntogether 3\nrow 1\ntogether 1\n"
                "lift 0\nlay 10 0 14 0 10 3\nrow 3")
        self.assertEqual((write_live(live), write_live(live=live)), (text, text))
        told = check_calls(self, read_live, ("text",), (text,))
        self.assertEqual(told, live)
        self.assertEqual((told.floor(), told.place(), told.deeds(), len(told)),
                         (live.floor(), live.place(), live.deeds(), len(live)))
        self.assertEqual(lines_due(text), text.count("\n") + 1)
        for moment in range(8):
            self.assertEqual(told.was(moment), live.was(moment))

    def test_what_was_taken_back_is_not_written(self):
        live = live_by(("row", (0,)), ("row", (1,)))
        live.undo()
        self.assertEqual(write_live(live), BEGIN + "\nrow 0")
        live.redo()
        told = live.trying(lambda guest: [guest.lead((2,)), write_live(guest)][1])
        self.assertEqual(told, BEGIN + "\nrow 0\nrow 1\nrow 2")
        self.assertEqual(write_live(live), BEGIN + "\nrow 0\nrow 1")

    def test_random_lines(self):
        rng = random.Random(1020)
        for floor in floors(1021, 60):
            begun = None
            for t in places(floor):
                try:
                    begun = Live(floor, t)
                except ValueError:
                    continue
            if begun is None:
                continue
            random_deeds(rng, begun, 2)
            text = write_live(begun)
            told = read_live(text)
            self.assertEqual(told, begun)
            self.assertEqual(write_live(told), text)
            self.assertEqual(lines_due(text), text.count("\n") + 1)

    def test_twelve_togethers_one_in_another(self):
        lines = "".join("\ntogether 1" for _ in range(12)) + "\nlift 0"
        live = read_live(BEGIN + lines)
        self.assertEqual((len(live), live.floor()[0]), (1, ()))
        self.assertEqual(write_live(live), BEGIN + lines)

    def test_lines_that_do_not_fit(self):
        def check(told, text):
            assert_raises_told(self, BadText, told, read_live, text)

        for text in ("", "value 5", "pieces\nloop 0 0 1 0 0 1", "point 0 0", "at 0 0", "row", "round 0 0", "walls",
                     "floor 1"):
            check(0, text)
        check(1, "floor")
        check(8, FLOOR_TEXT)
        check(8, FLOOR_TEXT + "\n")
        check(8, FLOOR_TEXT + "\nat")
        check(8, FLOOR_TEXT + "\nat 0")
        check(8, FLOOR_TEXT + "\nat 0 0 0")
        check(8, FLOOR_TEXT + "\nrow 0")
        lacking = (
            "", "row ", "row a", "row 0 01", "row .", "lift", "lift 0 0", "lift a", "lay", "lay 0", "lay 0 0 1",
            "lay 0 0 1/2 0", "put", "put 0 1", "put 0 1 2 3", "put 0 1 a", "together", "together 0", "together -1",
            "together 1 1", "together a", "together 01", "at 0 0", "floor", "undo", "lies 0 0 1 0 0 1", "value 5",
            "Row 0", " row 0", f"lift {10 ** 200}")
        for line in lacking:
            check(9, BEGIN + "\n" + line)
            self.assertEqual(lines_due(BEGIN + "\n" + line), 9)
            check(10, BEGIN + "\nrow 0\n" + line)
            # Lines that do not fit come ahead of deeds that are refused.
            check(10, BEGIN + "\nrow 9\n" + line)
            check(10, BEGIN + "\ntogether 2\n" + line)

    def test_togethers_lack_lines(self):
        def check(told, *lines):
            text = "\n".join((BEGIN,) + lines)
            assert_raises_told(self, BadText, told, read_live, text)
            self.assertEqual(lines_due(text), 9 + len(lines))

        check(10, "together 1")
        check(11, "together 2", "row 0")
        check(12, "together 2", "together 1", "row 0")
        check(12, "together 1", "together 2", "row 0")
        check(12, "row 0", "together 99", "row 0")
        check(11, f"together {MOST}", "row 9")
        self.assertEqual(read_live(BEGIN + "\ntogether 1\ntogether 2\nrow 0\nrow 2"),
                         live_by(("together", (("together", (("row", (0,)), ("row", (2,)))),))))

    def test_no_floor_or_shift(self):
        great, twice = FLOOR_TEXT.replace("box 0 0 4 4", "box 0 0 15 4"), FLOOR_TEXT.replace("move 0 1", "move 1 0")
        flat = FLOOR_TEXT.replace("lies 2 0 3 0 3 2 2 2", "lies 2 0")
        for text in (FLOOR_TEXT + "\nat 5 0", FLOOR_TEXT + "\nat 2 0", great + "\nat 0 0", twice + "\nat 0 0",
                     flat + "\nat 0 0", FLOOR_TEXT + "\nat 2 0\nrow 9"):
            assert_raises_told(self, BadText, None, read_live, text)
            self.assertEqual(lines_due(text), len(text.split("\n")))

    def test_refused_deeds(self):
        def check(told, *lines):
            text = "\n".join((BEGIN,) + lines)
            assert_raises_told(self, BadText, told, read_live, text)
            self.assertEqual(lines_due(text), 9 + len(lines))

        check(9, "row 4")
        check(9, "row -1")
        check(9, "row 2")
        check(9, "row " + "0 2 " * 200 + "0")
        check(10, "row 0", "row 0")
        check(9, "lift 1")
        check(9, "lift -1")
        check(10, "lift 0", "lift 0")
        check(9, "lay 0 0 1 0 0 1")
        check(9, "lay 0 0")
        check(9, "lay 0 0 1 0")
        check(9, "lay 0 0 1 0 2 0")
        check(9, f"lay 0 0 {10 ** 60 + 1} 0 0 1")
        check(13, *["lay 10 0 11 0 10 1"] * 5)
        check(9, "put 0 -2 0")
        check(9, "put 1 1 0")
        check(9, f"put 0 {10 ** 60} 0")
        check(11, "together 2", "row 0", "row 0")
        check(12, "together 2", "row 0", "together 1", "lift 7", "row 0")
        # The first deed that is refused.
        check(10, "together 2", "row 4", "row 4")
        check(10, "lift 0", "lift 0", "row 4")
        self.assertEqual(read_live(BEGIN + "\nrow " + "0 2 " * 199 + "0 2").place(), (0, 0))

    def test_wrong(self):
        live = live_by()
        wrong = ODD_THINGS + (FLOOR, BEGIN, (FLOOR, (0, 0)))
        check_wrong(self, write_live, ("live",), (live,), [rows_of(wrong, NoFloor)])
        wrong = [(value, BadText, None) for value in ODD_THINGS if not isinstance(value, str)]
        check_wrong(self, read_live, ("text",), (BEGIN,), [wrong])


def random_deeds(rng, live, depth):
    """Some deeds, those that are not refused."""
    for _ in range(rng.randint(0, 5)):
        kind = rng.randint(0, 5 if depth else 4)
        try:
            if kind == 0:
                live.lead(tuple(rng.randrange(len(live.floor()[2])) for _ in range(rng.randint(0, 3))))
            elif kind == 1:
                live.lift(rng.randint(0, 4))
            elif kind == 2:
                live.lay(tuple((x + rng.randint(-9, 9), y) for x, y in SQUARE[:1]) + ((20, 0), (20, 9)))
            elif kind == 3:
                live.put(rng.randint(0, 4), (rng.randint(-5, 5), rng.randint(-5, 5)))
            elif kind == 4:
                live.lead_to((rng.randint(-3, 6), rng.randint(-3, 6)))
            else:
                live.trying(lambda guest: random_deeds(rng, guest, depth - 1), kept=True)
        except (ValueError, OverflowError):
            continue


class Fits(unittest.TestCase):
    """A second way to tell how many lines fit: by patterns of whole lines."""

    NUMBER = r"(?:0|-?[1-9][0-9]{0,199})"

    def due(self, text):
        number = self.NUMBER
        one = {
            "point": rf"point {number} {number}", "map": rf"map(?: {number}){{6}}",
            "round": rf"round(?: {number} {number})+", "loop": rf"loop(?: {number} {number}){{3,}}"}
        lines = text.split("\n")
        first = lines[0]
        if any(re.fullmatch(p, first) for p in one.values()):
            return 1
        if first == "pieces":
            many = 1
            while many < len(lines) and re.fullmatch(one["loop"], lines[many]):
                many += 1
            return many
        if first != "floor":
            return 0
        pairs, deed = rf"(?: {number} {number})+", rf"row(?: {number})*|lift {number}|put(?: {number}){{3}}"
        chain = [("lies" + pairs, 0, 99), ("mover" + pairs, 1, 1), (rf"move {number} {number}", 1, 99),
                 (rf"box(?: {number}){{4}}", 1, 1), (rf"at {number} {number}", 1, 1),
                 (deed + "|lay" + pairs + "|together [1-9][0-9]*", 0, 99)]
        many = 1
        for pattern, least, most in chain:
            taken = 0
            while many < len(lines) and taken < most and re.fullmatch(pattern, lines[many]):
                many, taken = many + 1, taken + 1
            if taken < least:
                return many
        return many

    def test_random_lines(self):
        rng = random.Random(1030)
        pool = [
            "floor", "lies 0 0 1 0 0 1", "lies 0 0", "mover 0 0 1 0 0 1", "move 1 0", "move -1 0", "box 0 0 4 4",
            "at 0 0", "row", "row 0 1", "lift 0", "lay 1 1 2 2", "put 0 1 1", "together 2", "together 0", "",
            "point 0 0",
            "pieces", "loop 0 0 1 0 0 1", "loop 0 0", "map 1 0 0 1 0 0", "round 0 0", "move 1", "box 0 0 4", "at 0",
            "row 01"]
        whole = ["floor", "lies 0 0 1 0 0 1", "mover 0 0 1 0 0 1", "move 1 0", "box 0 0 4 4", "at 0 0", "row 0"]
        counts = {}
        for _ in range(3000):
            lines = list(whole) if rng.randint(0, 3) else ["pieces", "loop 0 0 1 0 0 1", "loop 0 0 1 0 0 1"]
            for _ in range(rng.randint(0, 4)):
                k = rng.randint(0, len(lines))
                kind = rng.randint(0, 2)
                if kind == 0:
                    lines.insert(k, rng.choice(pool))
                elif kind == 1 and k < len(lines):
                    lines[k] = rng.choice(pool)
                elif k < len(lines):
                    lines.insert(k, lines[k])
            text = "\n".join(lines)
            told = lines_due(text)
            self.assertEqual(told, self.due(text), text)
            counts[told] = counts.get(told, 0) + 1
        self.assertGreater(len(counts), 8)


if __name__ == "__main__":
    unittest.main()
