"""A console: kept lines, and a live floor or none ([18])."""

import random
import unittest

from gridshapes.areas import core_of, rim_of, twice_area
from gridshapes.console import Console
from gridshapes.errors import NoLine, ShapeError, TooMany
from gridshapes.texts import lines_due, read_live, write_live, write_text, write_value
from gridshapes.ways import hit_at, reached_from, stopped_by, way_paper
from tests.floors import BARRED, FLOOR, OPEN
from tests.reckon import BIG, SHAPES
from tests.test_texts import BEGIN, FLOOR_TEXT, MOST, NUMBERS, THINGS
from tests.wrong import ODD_THINGS, assert_raises_told

KEPT = ("drop", "fits", "thing", "twice", "rim", "inside", "begin")
LIVE = ("row", "row 0 1", "to 1 0", "lift 0", "lay 9 9 10 9 9 10", "put 0 1 1", "undo", "redo", "place", "shapes",
        "deeds", "was 0",
        "goes 0", "hit 0 0", "way 0 0", "reached", "show")
UNKNOWN = (
    "", " ", "x", "help", "Drop", "DROP", "drop ", " drop", "drop drop", "fits 1", "thing 0", "twice 2", "rim .",
    "inside 0 0", "begin 1",
    "begin begin", "row a", "row 0  1", "row ", "row 0 ", "row 1/2", "row .", "rows 0", "to", "to 1", "to 1 2 3",
    "to a b", "to 1  2",
    "lift", "lift 0 0", "lift a", "lay", "lay 1", "lay 1 2 3", "lay 1 a", "lay 1/2 0", "put", "put 0", "put 0 1",
    "put 0 1 2 3", "put a 0 0",
    "undo 1", "undo ", "redo 1", "place 0", "shapes 0", "deeds 0", "was", "was 0 0", "was a", "goes", "goes 0 1",
    "goes a", "hit", "hit 0",
    "hit 0 0 0", "way", "way 0", "way 0 0 0", "reached 0", "show 0", "at 0 0", "floor", "together 1", "value 5", " +x",
    "-x", "drop\n",
    "\n", "+\n", "+a\nb", "place\nplace", "row 0\n", "\nplace", "fits\t", "lift -", "lift +1", "lift 00", "lift -0",
    "lift 01", "was 1.0",
    f"lift {10 ** 200}", f"to {10 ** 200} 0", f"to 0 -{10 ** 200}", f"row {10 ** 200}", f"lay {10 ** 200} 0")


def console_of(text, *lines):
    """A console that keeps the lines of a text, and has been told some lines."""
    console = Console()
    for line in text.split("\n"):
        assert console.run("+" + line) == "ok"
    for line in lines:
        console.run(line)
    return console


def all_told(console):
    """What the console tells of all it has."""
    asked = ("fits", "thing", "twice", "rim", "inside", "place", "shapes", "deeds", "was 0", "was 1", "was 2",
             "reached", "show", "goes 0")
    return [console.run(line) for line in asked]


class Lines(unittest.TestCase):
    def test_at_first(self):
        console = Console()
        self.assertEqual([console.run(line) for line in KEPT],
                         ["ok", "0", "error", "error", "error", "error", "error"])
        for line in LIVE:
            self.assertEqual(console.run(line), "error", line)
        self.assertEqual(all_told(console), all_told(Console()))

    def test_kept_lines(self):
        console = Console()
        self.assertEqual(console.run("+pieces"), "ok")
        self.assertEqual((console.run("fits"), console.run("thing")), ("1", "error"))
        self.assertEqual(console.run("+loop 0 0 1 0 0 1"), "ok")
        self.assertEqual((console.run("fits"), console.run("thing")), ("2", "pieces"))
        self.assertEqual(console.run("+"), "ok")
        self.assertEqual((console.run("fits"), console.run("thing")), ("2", "error"))
        self.assertEqual(console.run("drop"), "ok")
        self.assertEqual((console.run("fits"), console.run("thing")), ("0", "error"))
        console.run("+")
        self.assertEqual((console.run("fits"), console.run("thing")), ("0", "error"))
        console.run("drop")
        # All behind the sign is kept: signs and blanks, too.
        console.run("++value 5")
        self.assertEqual(console.run("fits"), "0")
        console.run("drop")
        console.run("+value 5 ")
        self.assertEqual((console.run("fits"), console.run("thing")), ("0", "error"))
        console.run("drop")
        console.run("+ value 5")
        self.assertEqual(console.run("fits"), "0")
        console.run("drop")
        console.run("+value ( drop )")
        self.assertEqual((console.run("fits"), console.run("thing")), ("1", "value"))

    def test_things(self):
        for thing in THINGS:
            console = console_of(write_text(thing))
            self.assertEqual(console.run("fits"), str(lines_due(write_text(thing))))
            self.assertEqual(console.run("thing"), thing[0])
            if thing[0] != "round":
                self.assertEqual([console.run(line) for line in ("twice", "rim", "inside")], ["error"] * 3)
            if thing[0] != "floor":
                self.assertEqual(console.run("begin"), "error")
        for shape in SHAPES:
            console = console_of(write_text(("round", shape)))
            self.assertEqual([console.run(line) for line in ("twice", "rim", "inside")],
                             [str(twice_area(shape)), str(rim_of(shape)), str(core_of(shape))])
            console.run("+")
            self.assertEqual([console.run(line) for line in ("twice", "rim", "inside")], ["error"] * 3)

    def test_lines_of_no_form(self):
        for console in (Console(), console_of(BEGIN), console_of(BEGIN, "begin", "row 0", "lift 0", "undo")):
            before = all_told(console)
            for line in UNKNOWN:
                self.assertEqual(console.run(line), "unknown", line)
            for word in NUMBERS:
                for line in (f"row {word}", f"to {word} 0", f"to 0 {word}", f"lift {word}", f"lay {word} 0",
                             f"put 0 0 {word}", f"was {word}",
                             f"goes {word}", f"hit 0 {word}", f"way {word} 0"):
                    self.assertEqual(console.run(line), "unknown", line)
            self.assertEqual(all_told(console), before)

    def test_wrong(self):
        console = console_of(BEGIN, "begin")
        for value in ODD_THINGS:
            if not isinstance(value, str):
                assert_raises_told(self, NoLine, value, console.run, value)
        self.assertEqual(console.run(line="fits"), "9")


class Begin(unittest.TestCase):
    def test_begin(self):
        console = console_of(BEGIN)
        self.assertEqual(console.run("thing"), "error")
        self.assertEqual(console.run("begin"), "ok")
        self.assertEqual([console.run(line) for line in ("place", "shapes", "deeds", "was 0", "show")],
                         ["0 0", "1", "0", "0 0", "9"])
        self.assertEqual(console.run("row 0"), "ok")
        # The lines stay, and can be begun anew.
        self.assertEqual((console.run("fits"), console.run("place")), ("9", "1 0"))
        self.assertEqual((console.run("begin"), console.run("place"), console.run("deeds")), ("ok", "0 0", "0"))

    def test_what_there_was_stays(self):
        console = console_of(BEGIN, "begin", "row 0", "row 1", "undo")
        for text in ("", "value 5", FLOOR_TEXT, BEGIN + "\nrow 9", BEGIN + "\ntogether 1", FLOOR_TEXT + "\nat 2 0",
                     BEGIN + "\n"):
            console.run("drop")
            for line in text.split("\n"):
                console.run("+" + line)
            self.assertEqual(console.run("begin"), "error")
            self.assertEqual((console.run("place"), console.run("deeds"), console.run("was 0")), ("1 0", "1", "0 0"))
        console.run("drop")
        self.assertEqual((console.run("begin"), console.run("place")), ("error", "1 0"))
        self.assertEqual((console.run("redo"), console.run("place")), ("ok", "1 1"))

    def test_a_text_with_deeds(self):
        console = console_of(BEGIN + "\nrow 0\ntogether 2\nlift 0\nrow 0 0\nlay 9 9 10 9 9 10", "begin")
        self.assertEqual([console.run(line) for line in ("place", "shapes", "deeds", "was 1", "was 2", "show", "fits")],
                         ["3 0", "1", "3", "1 0", "3 0", "14", "14"])
        self.assertEqual([console.run("undo") for _ in range(4)], ["ok", "ok", "ok", "error"])
        self.assertEqual((console.run("place"), console.run("shapes")), ("0 0", "1"))


class OfTheLiveFloor(unittest.TestCase):
    def begun(self):
        return console_of(BEGIN, "begin")

    def test_deeds(self):
        console = self.begun()
        rows = (
            ("row 0 1", "ok", "1 1"), ("row", "ok", "1 1"), ("row 0", "error", "1 1"), ("row 9", "error", "1 1"),
            ("row -1", "error", "1 1"),
            ("to 4 1", "ok", "4 1"), ("to 2 1", "error", "4 1"), ("to 5 5", "error", "4 1"),
            ("to -1 0", "error", "4 1"),
            ("to 4 1", "ok", "4 1"), ("lift 1", "error", "4 1"), ("lift -1", "error", "4 1"), ("lift 0", "ok", "4 1"),
            ("to 2 1", "ok", "2 1"), ("lay 2 1 3 1 2 2", "error", "2 1"), ("lay 0 0", "error", "2 1"),
            ("lay 0 0 1 0 0 1", "ok", "2 1"),
            ("lay 0 0 0 1 1 0", "error", "2 1"), ("put 0 2 1", "error", "2 1"), ("put 0 1 1", "ok", "2 1"),
            ("put 1 0 0", "error", "2 1"),
            (f"put 0 {BIG} 0", "error", "2 1"), (f"put 0 {MOST} 0", "error", "2 1"), ("undo", "ok", "2 1"),
            ("redo", "ok", "2 1"),
            ("redo", "error", "2 1"))
        for line, answer, place in rows:
            self.assertEqual((console.run(line), console.run("place")), (answer, place), line)
        self.assertEqual([console.run(line) for line in ("deeds", "shapes")], ["8", "1"])
        self.assertEqual([console.run(f"was {k}") for k in range(-1, 10)],
                         ["error", "0 0", "1 1", "1 1", "4 1", "4 1", "4 1", "2 1", "2 1", "2 1", "error"])
        for _ in range(8):
            self.assertEqual(console.run("undo"), "ok")
        self.assertEqual((console.run("undo"), console.run("place"), console.run("shapes")), ("error", "0 0", "1"))

    def test_five_shapes(self):
        console = self.begun()
        self.assertEqual([console.run("lay 20 20 21 20 20 21") for _ in range(5)], ["ok"] * 4 + ["error"])
        self.assertEqual((console.run("shapes"), console.run("deeds")), ("5", "4"))

    def test_answers(self):
        console = self.begun()
        self.assertEqual(console.run("goes 0"), "goes")
        self.assertEqual(console.run("goes 2"), "( out )")
        self.assertEqual((console.run("goes 4"), console.run("goes -1")), ("error", "error"))
        console.run("row 0")
        self.assertEqual(console.run("goes 0"), "( way 0 ( 0 1 ) )")
        self.assertEqual(console.run("hit 2 1"), "( 0 )")
        self.assertEqual(console.run("hit 0 0"), "( )")
        self.assertEqual((console.run("hit 5 0"), console.run("hit 0 -1")), ("error", "error"))
        console.run("lay 2 0 3 0 2 1")
        self.assertEqual(console.run("hit 2 0"), "( 0 1 )")
        self.assertEqual(console.run("way 0 1"), "( row ( 1 2 ) )")
        self.assertEqual(console.run("way 1 0"), "( row ( ) )")
        self.assertEqual(console.run("way 5 1"), "error")
        self.assertEqual(console.run("way 2 0"),
                         write_value(way_paper((FLOOR[0] + (((2, 0), (3, 0), (2, 1)),),) + FLOOR[1:], (1, 0), (2, 0))))
        self.assertEqual((console.run("reached"), console.run("show")), ("23", "11"))

    def test_questions_change_nothing(self):
        console = console_of(BEGIN, "begin", "row 0", "row 1", "undo")
        before = all_told(console)
        for line in ("place", "shapes", "deeds", "was 1", "goes 0", "hit 0 0", "way 4 4", "reached", "show", "fits",
                     "thing", "twice", "row 9",
                     "to 2 0", "lift 3", "lay 0 0", "put 4 0 0", "was 9", "goes 9", "hit 9 9", "way 9 9"):
            console.run(line)
        self.assertEqual(all_told(console), before)
        self.assertEqual((console.run("redo"), console.run("place")), ("ok", "1 1"))

    def test_two_consoles(self):
        one, other = self.begun(), self.begun()
        one.run("row 0")
        one.run("drop")
        self.assertEqual((other.run("place"), other.run("fits"), one.run("place"), one.run("fits")),
                         ("0 0", "9", "1 0", "0"))

    def test_against_the_functions(self):
        rng = random.Random(1200)
        for text in (BEGIN, write_text(("floor", OPEN)) + "\nat 2 2", write_text(("floor", BARRED)) + "\nat 3 5"):
            console, live = console_of(text, "begin"), read_live(text)
            answers = {}
            for _ in range(250):
                line = self.random_line(rng)
                told = console.run(line)
                self.assertEqual(told, self.second_answer(live, line), line)
                answers[told if told in ("ok", "error") else "told"] = True
                self.assertEqual(console.run("show"), str(len(write_live(live).split("\n"))))
            self.assertEqual(sorted(answers), ["error", "ok", "told"])

    def random_line(self, rng):
        low, high = rng.randint(-1, 5), rng.randint(-1, 5)
        return rng.choice((
            f"row {rng.randint(0, 4)}", f"row {rng.randint(0, 3)} {rng.randint(0, 3)}", f"to {low} {high}",
            f"lift {rng.randint(-1, 2)}",
            f"lay {low} {high} {low + 1} {high} {low} {high + 1}", f"put {rng.randint(0, 5)} {low} {high}", "undo",
            "redo", "undo", "place",
            "shapes", "deeds", f"was {rng.randint(-1, 9)}", f"goes {rng.randint(-1, 4)}", f"hit {low} {high}",
            f"way {low} {high}", "reached"))

    def second_answer(self, live, line):
        word, *words = line.split(" ")
        numbers = tuple(int(part) for part in words)
        pairs = tuple(zip(numbers[::2], numbers[1::2]))
        doing = {"row": lambda: live.lead(numbers), "to": lambda: live.lead_to(numbers),
                 "lift": lambda: live.lift(*numbers),
                 "lay": lambda: live.lay(pairs), "put": lambda: live.put(numbers[0], numbers[1:]), "undo": live.undo,
                 "redo": live.redo}
        asking = {
            "place": lambda: "%d %d" % live.place(), "shapes": lambda: str(len(live.floor()[0])),
            "deeds": lambda: str(len(live.deeds())),
            "was": lambda: "%d %d" % live.was(*numbers)[1],
            "goes": lambda: stopped_by(live.floor(), live.place(), *numbers),
            "hit": lambda: write_value(tuple(hit_at(live.floor(), numbers))),
            "way": lambda: write_value(way_paper(live.floor(), live.place(), numbers)),
            "reached": lambda: str(len(reached_from(live.floor(), live.place())))}
        try:
            if word in doing:
                doing[word]()
                return "ok"
            told = asking[word]()
        except (ShapeError, TooMany):
            return "error"
        if word == "goes":
            return "goes" if told is None else write_value(told)
        return told


if __name__ == "__main__":
    unittest.main()
