"""Questions, claims, what they say, and where grid maps lead them ([15], [0.2] (i))."""

import random
import unittest
from fractions import Fraction

from gridshapes.claims import (
    claim_led, first_wrong, is_claim, is_question, is_right, sense_of, told_claim, words_of)
from gridshapes.commons import none_paper
from gridshapes.errors import NoClaim, NoMap, TooMany
from gridshapes.fits import fit_paper, reach_paper
from gridshapes.greatest import greatest_fit, greatest_paper
from gridshapes.likeness import like_paper, map_back, map_behind
from gridshapes.moving import free_paper, leg_paper
from gridshapes.shoves import shove_paper
from gridshapes.stands import stand_of, stand_paper
from gridshapes.sums import rest_paper
from gridshapes.sweeps import sweep_paper
from gridshapes.ways import least_paper, way_paper
from tests.floors import BARRED, FLOOR
from tests.gridmaps import GREAT_MAP, MAPS, OVER, SAME, SLANT, WRONG_MAPS, led, led_shape, random_map
from tests.outlines import BENT, DART
from tests.reckon import (
    BIG, FLAT, GREAT, KITE, LEVEL, POINT, SIX, SPOT, SQUARE, STRETCH, WEDGE, cornered, cross, dot, fine, fraction,
    fractions, less, random_full, random_shape, shifted)
from tests.wrong import ODD_THINGS, assert_raises_told, bent, check_calls, check_wrong, rows_of

HALF = ((1, 2), (1, 2))
TWO = (((0, 0), (2, 0), (2, 1), (1, 1)), ((0, 0), (1, 1), (1, 2), (0, 2)))
FAR = shifted(SQUARE, (9, 9))

# Questions of each word, with what their right claims say.
QUESTIONS = {
    "stand": [(SQUARE, WEDGE, (5, 0), "apart"), (SQUARE, WEDGE, (4, 0), "touch"), (SQUARE, WEDGE, (3, 0), "overlap"),
              (POINT, STRETCH, (2, 1), "touch"), (POINT, SPOT, (0, 0), "apart")],
    "common": [((SQUARE,), "yes"), ((SQUARE, WEDGE, KITE), "yes"), ((SQUARE, FAR), "no"), ((POINT, SPOT), "no"),
               ((((0, 0), (4, 0)), ((0, 0), (0, 4)), ((4, 0), (0, 4))), "no"), ((SQUARE,) * 8, "yes")],
    "leg": [(SQUARE, WEDGE, (10, 0), (-12, 0), "yes"), (SQUARE, WEDGE, (10, 0), (12, 0), "no"),
            (POINT, SPOT, (3, -2), (0, 0), "yes"), (POINT, SPOT, (3, 2), (0, 0), "no")],
    "free": [(SQUARE, WEDGE, (10, 0), (-12, 0), "no"), (SQUARE, WEDGE, (10, 0), (12, 0), "yes"),
             (SQUARE, WEDGE, (-1, -5), (0, 30), "yes"), (POINT, SPOT, (3, -2), (0, 0), "yes")],
    "shove": [(SQUARE, WEDGE, (3, 0), (0, 1), "yes"), (SQUARE, WEDGE, (4, 0), (0, 1), "no"),
              (SQUARE, WEDGE, (9, 0), (0, 1), "no")],
    "fit": [(SQUARE, WEDGE, "yes"), (WEDGE, SQUARE, "no"), (POINT, SPOT, "yes"), (STRETCH, LEVEL, "no")],
    "reach": [(SQUARE, WEDGE, ((1, 2), (1, 2)), "yes"), (SQUARE, WEDGE, ((7, 2), (1, 1)), "no"),
              (WEDGE, SQUARE, ((1, 2), (1, 2)), "no")],
    "greatest": [(SQUARE, WEDGE, (12, 7)), (WEDGE, SQUARE, (1, 4)), (STRETCH, LEVEL, (0, 1)), (LEVEL, LEVEL, (1, 1))],
    "flaw": [(BENT, TWO, "no"), (BENT, TWO[:1], "yes"), (DART, (DART,), "no"), (DART, (BENT,) * 20, "yes")],
    "sweep": [(SQUARE, (0, 0), ((3, 0), (0, 3)), KITE, "yes"), (SQUARE, (9, 9), ((3, 0), (0, 3)), KITE, "no"),
              (POINT, (0, 0), ((0, 0),), POINT, "yes"), (POINT, (0, 0), ((1, 1),) * 5, shifted(KITE, (-9, 0)), "no")],
    "rest": [(WEDGE, SQUARE, "no"), (SIX, SQUARE, "yes"), (SIX, SIX, "yes"),
             (((0, 0), (5, 0), (5, 1), (1, 4), (0, 4)), SQUARE, "yes"),
             (WEDGE, SPOT, "yes"), (STRETCH, ((0, 0), (6, 3)), "no"), (POINT, KITE, "no")],
    "like": [(SQUARE, shifted(SQUARE, (3, 4)), "yes"), (SQUARE, WEDGE, "no"), (POINT, SPOT, "yes"),
             (STRETCH, LEVEL, "no"),
             (((0, 0), (1, 0), (2, 7)), ((0, 0), (1, 0), (3, 7)), "no"), (WEDGE, ((0, 0), (2, 0), (0, 6)), "no"),
             (SQUARE, ((0, 0), (2, 0), (2, 2), (0, 2)), "no")],
    "way": [(FLOOR, (0, 0), (4, 4), "yes"), (FLOOR, (2, 0), (0, 0), "no"), (BARRED, (0, 0), (14, 14), "no"),
            (FLOOR, (0, 0), (0, 0), "yes")],
    "least": [(FLOOR, (0, 0), (4, 4), "yes"), (FLOOR, (2, 0), (0, 0), "no"), (BARRED, (0, 0), (14, 14), "no"),
              (FLOOR, (0, 0), (0, 0), "yes")],
}

WORDS = {
    "stand": ("apart", "overlap", "touch"), "common": ("none", "point"), "leg": ("apart", "first"),
    "free": ("free", "overlaps"), "shove": ("apart", "shove", "touch"), "fit": ("fits", "none"),
    "reach": ("by", "never"), "greatest": ("greatest",), "flaw": ("flaw", "parted"), "sweep": ("clear", "met"),
    "rest": ("rest", "short"), "like": ("corners", "like", "rim", "twice", "unlike"), "way": ("hit", "row", "shut"),
    "least": ("hit", "least", "shut")}

WRONG_QUESTIONS = ODD_THINGS + (
    ("stand",), ("stand", SQUARE, WEDGE), ("stand", SQUARE, WEDGE, (0, 0), 1), ["stand", SQUARE, WEDGE, (0, 0)],
    ("stands", SQUARE, WEDGE, (0, 0)), ("Stand", SQUARE, WEDGE, (0, 0)), (b"stand", SQUARE, WEDGE, (0, 0)),
    (None, SQUARE, WEDGE), (0, SQUARE, WEDGE), ((), SQUARE, WEDGE), ([], SQUARE, WEDGE), ({}, SQUARE),
    ("", SQUARE, WEDGE),
    ("stand", None, WEDGE, (0, 0)), ("stand", SQUARE, list(WEDGE), (0, 0)), ("stand", SQUARE, WEDGE, [0, 0]),
    ("stand", SQUARE, WEDGE, HALF), ("stand", SQUARE, WEDGE, (BIG + 1, 0)), ("stand", SQUARE, WEDGE, (0, True)),
    ("common", ()), ("common", [SQUARE]), ("common", (SQUARE,) * 9), ("common", (SQUARE, None)), ("common", SQUARE),
    ("common",), ("common", (SQUARE,), 1), ("leg", SQUARE, WEDGE, (0, 0)), ("leg", SQUARE, WEDGE, HALF, (1, 0)),
    ("leg", SQUARE, WEDGE, (0, 0), (10 * BIG + 1, 0)), ("leg", SQUARE, WEDGE, (0, 0), None),
    ("free", SQUARE, None, (0, 0), (1, 0)), ("free", SQUARE, WEDGE, (0, 0), [1, 0]),
    ("shove", SQUARE, WEDGE, (0, 0), (0, 0)), ("shove", STRETCH, WEDGE, (0, 0), (1, 0)),
    ("shove", SQUARE, POINT, (0, 0), (1, 0)), ("shove", SQUARE, WEDGE, HALF, (1, 0)), ("shove", SQUARE, WEDGE, (0, 0)),
    ("fit", SQUARE), ("fit", SQUARE, None), ("fit", SQUARE, WEDGE, None), ("reach", SQUARE, WEDGE, (0, 0)),
    ("reach", SQUARE, WEDGE), ("reach", SQUARE, WEDGE, [(0, 1), (0, 1)]), ("greatest", POINT, SQUARE),
    ("greatest", None, SQUARE), ("greatest", SQUARE, None), ("flaw", BENT, list(TWO)), ("flaw", BENT, ()),
    ("flaw", BENT, (BENT,) * 21), ("flaw", BENT[::-1], TWO), ("flaw", BENT, (TWO[0], None)), ("flaw", BENT),
    ("flaw", STRETCH, TWO), ("sweep", SQUARE, (0, 0), [(1, 0)], WEDGE), ("sweep", SQUARE, (0, 0), (), WEDGE),
    ("sweep", SQUARE, (0, 0), ((1, 0),) * 6, WEDGE), ("sweep", SQUARE, (0, 0), ((1, 0), None), WEDGE),
    ("sweep", SQUARE, HALF, ((1, 0),), WEDGE), ("sweep", SQUARE, (0, 0), ((1, 0),), None),
    ("sweep", SQUARE, (0, 0), (1, 0), WEDGE), ("rest", SQUARE), ("rest", None, SQUARE), ("rest", SQUARE, None),
    ("like", SQUARE, None), ("like", None, SQUARE), ("like", SQUARE, SQUARE, SQUARE), ("way", FLOOR, (0, 0)),
    ("way", None, (0, 0), (0, 0)), ("way", FLOOR, (5, 0), (0, 0)), ("way", FLOOR, (0, 0), (0, -1)),
    ("way", FLOOR, [0, 0], (0, 0)), ("way", FLOOR, (0, 0), None), ("way", FLOOR, (0, True), (0, 0)),
    ("least", list(FLOOR), (0, 0), (0, 0)), ("least", FLOOR, (0, 0), (0, 5)), ("least", FLOOR, None, (0, 0)),
    ("least", FLOOR), ("least", FLOOR, (0, 0), (0, 0), ()), ("paper", SQUARE), ("way",), ("point", (0, 0)))


def all_questions():
    """Pairs of each question and what its right claims say."""
    return [((word, *row[:-1]), row[-1]) for word, rows in QUESTIONS.items() for row in rows]


def second_paper(question):
    """What the functions of its stage tell."""
    word, *parts = question
    if word == "common":
        paper = none_paper(*parts)
        return paper
    if word == "shove":
        paper = shove_paper(*parts)
        return stand_paper(*parts[:3]) if paper is None else ("shove",) + paper
    if word == "least":
        return least_paper(*parts) or way_paper(*parts)
    told = {"stand": stand_paper, "leg": leg_paper, "free": free_paper, "fit": fit_paper, "reach": reach_paper,
            "greatest": greatest_paper, "sweep": sweep_paper, "rest": rest_paper, "like": like_paper, "way": way_paper}
    return told[word](*parts)


class Questions(unittest.TestCase):
    def test_there_are_fourteen_words(self):
        self.assertEqual(len(QUESTIONS), 14)
        self.assertEqual(list(QUESTIONS), list(WORDS))

    def test_questions(self):
        for question, _ in all_questions():
            self.assertIs(check_calls(self, is_question, ("value",), (question,)), True)
            self.assertIs(is_question(list(question)), False)
            self.assertIs(is_question(question + (None,)), False)
            self.assertIs(is_question(question[:-1]), False)
            for k in range(1, len(question)):
                for part in (None, list(question[k]), (), "x"):
                    self.assertIs(is_question(question[:k] + (part,) + question[k + 1:]), False, (question, k, part))
        for value in WRONG_QUESTIONS:
            self.assertIs(is_question(value), False, value)
        self.assertIs(is_question(("stand", GREAT, cornered(60), (-BIG, BIG))), True)
        self.assertIs(is_question(("leg", POINT, POINT, (0, 0), (10 * BIG, -10 * BIG))), True)

    def test_claims(self):
        for question, _ in all_questions():
            for paper in ((), ("x",), (None, 1, [2]), second_paper(question) or ()) if question[0] != "flaw" else ((),):
                self.assertIs(is_claim((question, paper)), True)
            for value in (question, (question,), [question, ()], (question, []), (question, None), (question, "x"),
                          (question, (), ()), ((), question), (None, ()), ((question,), ())):
                self.assertIs(is_claim(value), False)
        for value in WRONG_QUESTIONS:
            self.assertIs(is_claim(value), False)
            self.assertIs(is_claim((value, ())), False)

    def test_words(self):
        for question, _ in all_questions():
            told = check_calls(self, words_of, ("question",), (question,))
            self.assertEqual(told, WORDS[question[0]])
            self.assertIsInstance(told, tuple)
            self.assertEqual(list(told), sorted(told))
            self.assertIn(told_claim(question)[1][0], told)
        check_wrong(self, words_of, ("question",), (("fit", SQUARE, SQUARE),), [rows_of(WRONG_QUESTIONS, NoClaim)])


class Told(unittest.TestCase):
    def test_told_claims_are_right_and_say_it(self):
        for question, sense in all_questions():
            claim = check_calls(self, told_claim, ("question",), (question,))
            self.assertIsInstance(claim, tuple)
            self.assertEqual(claim[0], question)
            self.assertIs(is_claim(claim), True)
            self.assertIs(check_calls(self, is_right, ("value",), (claim,)), True, claim)
            self.assertEqual(check_calls(self, sense_of, ("claim",), (claim,)), sense, claim)
            if question[0] == "common" and sense == "yes":
                self.assertEqual(claim[1][0], "point")
            elif question[0] == "flaw":
                self.assertEqual(claim[1][0], "flaw" if sense == "yes" else "parted")
            else:
                self.assertEqual(claim[1], second_paper(question))

    def test_each_word_of_papers_is_told_somewhere(self):
        told = {(question[0], told_claim(question)[1][0]) for question, _ in all_questions()}
        self.assertEqual(told, {(word, first) for word, firsts in WORDS.items() for first in firsts})

    def test_example(self):
        question = ("stand", ((0, 0), (1, 0), (1, 1), (0, 1)), ((0, 0), (4, 0), (0, 3)), (5, 0))
        self.assertEqual(sense_of(told_claim(question)), "apart")

    def test_small_ones(self):
        self.assertEqual(told_claim(("common", (WEDGE, SQUARE))),
                         (("common", (WEDGE, SQUARE)), ("point", fine((0, 0)))))
        self.assertEqual(told_claim(("flaw", BENT, TWO))[1], ("parted",))
        self.assertEqual(told_claim(("flaw", SQUARE, (SQUARE, SQUARE)))[1], ("flaw", (1, 0), (0, 0), 1))
        self.assertEqual(told_claim(("shove", SQUARE, WEDGE, (4, 0), (1, 0)))[1][0], "touch")
        self.assertEqual(told_claim(("least", FLOOR, (2, 0), (0, 0)))[1], ("hit", 0))
        self.assertEqual(told_claim(("least", FLOOR, (0, 0), (1, 0)))[1], ("least", (0,), (((0, 0),),)))
        self.assertEqual(told_claim(("way", FLOOR, (0, 0), (1, 0)))[1], ("row", (0,)))

    def test_random_ones(self):
        rng = random.Random(900)
        for _ in range(120):
            one, other = random_shape(rng, 3), random_shape(rng, 3)
            full, other_full = random_full(rng, 3, 5), random_full(rng, 3, 5)
            t, v = (rng.randint(-6, 6), rng.randint(-6, 6)), (rng.randint(-6, 6), rng.randint(1, 6))
            questions = [("stand", one, other, t), ("common", (one, other, full)), ("leg", one, other, t, v),
                         ("free", full, other_full, t, v), ("shove", full, other_full, t, v), ("fit", one, other),
                         ("reach", one, full, fine(t)), ("greatest", full, other), ("sweep", one, t, (v, t), other),
                         ("rest", full, one), ("like", one, other), ("like", full, led_shape(random_map(rng, 1), full))]
            for question in questions:
                claim = told_claim(question)
                self.assertIs(is_right(claim), True, claim)
                self.assertIn(claim[1][0], words_of(question))
                if question[0] == "stand":
                    self.assertEqual(sense_of(claim), stand_of(one, other, t))
                elif question[0] == "greatest":
                    self.assertEqual(sense_of(claim), greatest_fit(full, other))

    def test_wrong(self):
        check_wrong(self, told_claim, ("question",), (("fit", SQUARE, SQUARE),), [rows_of(WRONG_QUESTIONS, NoClaim)])
        sixty = cornered(60)
        with self.assertRaises(TooMany) as caught:
            told_claim(("common", (sixty, shifted(sixty, (10 ** 6, 0)))))
        self.assertEqual(caught.exception.most, 100)


class Right(unittest.TestCase):
    def test_papers_of_other_questions_and_bent_ones(self):
        papers = [told_claim(question)[1] for question, _ in all_questions()]
        for question, sense in all_questions():
            claim = told_claim(question)
            for paper in bent(claim[1]):
                value = (question, paper)
                if is_right(value):
                    # Some parts may be others; what is said stays.
                    self.assertIsInstance(paper, tuple)
                    self.assertNotIn("[", repr(paper))
                    self.assertEqual(sense_of(value), sense)
            for value in (claim + (None,), list(claim), claim[:1], claim[::-1], (claim,), (question, list(claim[1]))):
                self.assertIs(is_right(value), False)
            for paper in papers:
                value = (question, paper)
                if is_right(value):
                    self.assertEqual(sense_of(value), sense)
                    self.assertIn(paper[0], words_of(question))
                else:
                    assert_raises_told(self, NoClaim, value, sense_of, value)
            self.assertIs(is_right((question, ())), False)

    def test_lists_in_papers_are_tuples(self):
        question = ("like", ((0, 0), (1, 0), (2, 7)), ((0, 0), (1, 0), (3, 7)))
        paper = like_paper(*question[1:])
        self.assertIs(is_right((question, paper)), True)
        self.assertIs(is_right((question, ("unlike", paper[1][::-1]))), True)
        self.assertIs(is_right((question, ("unlike", list(paper[1])))), False)
        question = ("way", BARRED, (0, 0), (14, 14))
        paper = way_paper(*question[1:])
        for word in ("way", "least"):
            self.assertIs(is_right(((word, *question[1:]), ("shut", paper[1][::-1]))), True)
            self.assertIs(is_right(((word, *question[1:]), ("shut", list(paper[1])))), False)
        question = ("least", FLOOR, (0, 0), (1, 1))
        lots = (((0, 0),), ((0, 0), (0, 1), (1, 0)))
        self.assertIs(is_right((question, ("least", (0, 1), lots))), True)
        self.assertIs(is_right((question, ("least", (1, 0), lots))), True)
        self.assertIs(is_right((question, ("least", (0, 1), list(lots)))), False)
        self.assertIs(is_right((question, ("least", (0, 1), (list(lots[0]), lots[1])))), False)
        self.assertIs(is_right((question, ("least", (0, 1), (lots[0], list(lots[1]))))), False)
        question = ("least", FLOOR, (0, 0), (0, 0))
        self.assertIs(is_right((question, ("least", (), ()))), True)
        self.assertIs(is_right((question, ("least", (), []))), False)

    def test_common(self):
        question = ("common", (SQUARE, WEDGE))
        for p, expected in (((0, 0), True), ((1, 1), True), ((Fraction(1, 2), Fraction(1, 3)), True), ((2, 0), False)):
            self.assertIs(is_right((question, ("point", fine(p)))), expected)
        self.assertIs(is_right((question, ("point", (0, 0)))), False)
        self.assertIs(is_right((question, ("point", None))), False)
        self.assertIs(is_right((question, ("point",))), False)
        question = ("common", (SQUARE, FAR))
        self.assertIs(is_right((question, ("point", HALF))), False)
        self.assertIs(is_right((question, none_paper((SQUARE, FAR)))), True)

    def test_shove(self):
        overlapped, touched, apart = (("shove", SQUARE, WEDGE, t, (0, 1)) for t in ((3, 0), (4, 0), (9, 0)))
        for t, question in (((3, 0), overlapped), ((4, 0), touched), ((9, 0), apart)):
            # A stand paper is right just where they do not overlap.
            self.assertIs(is_right((question, stand_paper(SQUARE, WEDGE, t))), t != (3, 0))
        paper = shove_paper(SQUARE, WEDGE, (3, 0), (0, 1))
        self.assertIs(is_right((overlapped, ("shove", *paper))), True)
        self.assertIs(is_right((overlapped, paper)), False)
        self.assertIs(is_right((touched, ("shove", *paper))), False)
        self.assertIs(is_right((touched, ("touch", fine((4, 0)), ((-1, 0), (-4, 1))))), True)
        self.assertIs(is_right((apart, ("apart", (-2, 0), (-9, 1)))), True)

    def test_flaw(self):
        self.assertIs(is_right((("flaw", BENT, TWO), ("parted",))), True)
        self.assertIs(is_right((("flaw", BENT, TWO[::-1]), ("parted",))), True)
        self.assertIs(is_right((("flaw", BENT, TWO[:1]), ("parted",))), False)
        question = ("flaw", SQUARE, (SQUARE, SQUARE))
        self.assertIs(is_right((question, ("flaw", (1, 0), (0, 0), 1))), True)
        self.assertIs(is_right((question, ("flaw", (0, 1), (0, 1), 1))), True)
        self.assertIs(is_right((question, ("flaw", (0, 1), (0, 1), -1))), False)
        self.assertIs(is_right((question, ("flaw", ((1, 0), (0, 0), 1)))), False)
        self.assertIs(is_right((question, ((1, 0), (0, 0), 1))), False)

    def test_least_and_way(self):
        # A row is no least paper, and a longer row none with lots.
        self.assertIs(is_right((("least", FLOOR, (0, 0), (1, 0)), ("row", (0,)))), False)
        self.assertIs(is_right((("way", FLOOR, (0, 0), (1, 0)), ("row", (0,)))), True)
        self.assertIs(is_right((("way", FLOOR, (0, 0), (1, 0)), ("row", (1, 0, 3)))), True)
        self.assertIs(is_right((("way", FLOOR, (0, 0), (1, 0)), ("least", (0,), (((0, 0),),)))), False)
        self.assertIs(is_right((("least", FLOOR, (0, 0), (1, 0)), ("least", (0,), (((0, 0),),)))), True)
        for word in ("way", "least"):
            self.assertIs(is_right(((word, FLOOR, (2, 0), (2, 0)), ("hit", 0))), True)
            self.assertIs(is_right(((word, FLOOR, (0, 0), (2, 0)), ("hit", 0))), False)

    def test_deep_values(self):
        deep = ()
        for _ in range(5000):
            deep = (deep,)
        question = ("stand", SQUARE, WEDGE, (0, 0))
        for value in (deep, (question, deep), (deep, ()), (question, ("overlap", deep)),
                      (("stand", deep, deep, deep), ())):
            self.assertIs(is_right(value), False)
        self.assertIs(is_question(deep), False)

    def test_values_that_are_no_claims(self):
        for value in ODD_THINGS + tuple((question, ("x",)) for question in WRONG_QUESTIONS):
            self.assertIs(is_right(value), False)
        question = ("fit", SQUARE, SQUARE)
        wrong = ODD_THINGS + ((question, ()), (question, ("fits", None)), (question, ["fits", fine((0, 0))]), question)
        check_wrong(self, sense_of, ("claim",), ((question, ("fits", fine((0, 0)))),), [rows_of(wrong, NoClaim)])

    def test_first_wrong(self):
        claims = [told_claim(question) for question, _ in all_questions()]
        self.assertIsNone(check_calls(self, first_wrong, ("claims",), (claims,)))
        self.assertIsNone(first_wrong(tuple(claims)))
        self.assertIsNone(first_wrong([]))
        self.assertIsNone(first_wrong(()))
        for k in range(0, len(claims), 7):
            for value in (None, claims[k][0], list(claims[k]), (claims[k][0], ()), (claims[k - 1][0], ("x",)), 3):
                self.assertEqual(first_wrong(claims[:k] + [value] + claims[k + 1:]), k)
                self.assertEqual(first_wrong(tuple(claims[:k] + [value, None])), k)
        self.assertIsNone(first_wrong(claims[:1] * 100))
        self.assertEqual(first_wrong(claims[:1] * 99 + [None]), 99)
        wrong = [(value, NoClaim, None) for value in (None, 3, True, "ab", {}, {0: 1}, claims[:1] * 101, (None,) * 101)]
        check_wrong(self, first_wrong, ("claims",), (claims,), [wrong])


LED = ("stand", "leg", "free", "shove", "sweep", "rest")


def led_fine(grid, p):
    return fine(led(grid, fractions(p)))


def led_vector(grid, v):
    return less(led(grid, v), led(grid, (0, 0)))


def led_question(grid, question):
    word, *parts = question
    if word == "sweep":
        shape, shift, legs, other = parts
        return (word, led_shape(grid, shape), led_vector(grid, shift), tuple(led_vector(grid, v) for v in legs),
                led_shape(grid, other))
    return (word, *[led_shape(grid, part) for part in parts[:2]], *[led_vector(grid, part) for part in parts[2:]])


class Led(unittest.TestCase):
    names = ("grid", "claim")

    def check_direction(self, grid, u, new):
        for v in ((1, 0), (0, 1), (3, -7)):
            self.assertEqual(dot(new, led_vector(grid, v)), dot(u, v))

    def check_line(self, grid, line, new):
        if line is None or line[0] is None:
            self.assertEqual(new, line)
            return
        self.check_direction(grid, line[0], new[0])
        # A point of the line, with Fractions.
        u, c = line
        p = (fraction(c) * u[0] / dot(u, u), fraction(c) * u[1] / dot(u, u))
        self.assertEqual(dot(new[0], led(grid, p)), fraction(new[1]))

    def check_paper(self, grid, paper, new):
        self.assertEqual(new[0], paper[0])
        self.assertEqual(len(new), len(paper))
        word = paper[0]
        if word in ("apart", "free"):
            self.check_line(grid, paper[1:], new[1:])
        elif word == "rest":
            linear = grid[:4] + (0, 0)
            self.assertEqual(new[1], led_shape(linear, paper[1]))
        elif word == "short":
            turned = 1 if cross((grid[0], grid[2]), (grid[1], grid[3])) == 1 else -1
            x, y = led_vector(grid, paper[1])
            self.assertEqual(new[1:], ((turned * x, turned * y),) + paper[2:])
        elif word == "overlap":
            self.assertEqual(new[1], led_fine(grid, paper[1]))
        elif word == "touch":
            self.assertEqual(new[1], led_fine(grid, paper[1]))
            self.check_line(grid, paper[2], new[2])
        elif word == "first":
            self.assertEqual(new[1:3], (paper[1], led_fine(grid, paper[2])))
            if paper[3] is None:
                self.assertIsNone(new[3])
            else:
                self.check_direction(grid, paper[3], new[3])
        elif word == "overlaps":
            self.assertEqual(new[1:], (paper[1], led_fine(grid, paper[2])))
        elif word == "shove":
            self.assertEqual(new[1:4], (paper[1], led_fine(grid, paper[2]), led_fine(grid, paper[3])))
            self.check_line(grid, paper[4], new[4])
        elif word == "met":
            self.assertEqual(new[1:], (paper[1], paper[2], led_fine(grid, paper[3])))
        else:
            self.assertEqual((word, len(new[1])), ("clear", len(paper[1])))
            for line, other in zip(paper[1], new[1]):
                self.check_line(grid, line, other)

    def claims(self):
        rng = random.Random(910)
        questions = [question for question, _ in all_questions() if question[0] in LED]
        for _ in range(25):
            one, other, full = random_shape(rng, 3), random_shape(rng, 3), random_full(rng, 3, 5)
            t, v = (rng.randint(-6, 6), rng.randint(-6, 6)), (rng.randint(-6, 6), rng.randint(1, 6))
            questions += [("stand", one, other, t), ("leg", one, other, t, v), ("free", full, FLAT, t, v),
                          ("shove", full, KITE, t, v), ("sweep", one, t, (v, t), other), ("rest", full, one)]
        return [told_claim(question) for question in questions]

    def test_led_claims(self):
        rng = random.Random(911)
        words = {}
        for claim in self.claims():
            for grid in (random_map(rng), rng.choice(MAPS), random_map(rng, 1, 10 ** 9)):
                told = check_calls(self, claim_led, self.names, (grid, claim))
                self.assertEqual(told[0], led_question(grid, claim[0]))
                self.check_paper(grid, claim[1], told[1])
                self.assertIs(is_right(told), True, (grid, claim))
                self.assertEqual(sense_of(told), sense_of(claim))
                self.assertEqual(claim_led(map_back(grid), told), claim)
                other = random_map(rng)
                self.assertEqual(claim_led(other, told), claim_led(map_behind(grid, other), claim))
                words[claim[0][0], claim[1][0]] = True
            self.assertEqual(claim_led(SAME, claim), claim)
        self.assertEqual(sorted(words), sorted((word, first) for word in LED for first in WORDS[word]))

    def test_small_ones(self):
        stand = (("stand", SQUARE, WEDGE, (5, 0)), ("apart", (-1, 0), (-5, 1)))
        self.assertEqual(claim_led((1, 0, 0, 1, 2, 3), stand), (
            ("stand", shifted(SQUARE, (2, 3)), shifted(WEDGE, (2, 3)), (5, 0)), ("apart", (-1, 0), (-7, 1))))
        self.assertEqual(claim_led(OVER, stand), (
            ("stand", ((0, -1), (1, -1), (1, 0), (0, 0)), ((0, -3), (4, 0), (0, 0)), (5, 0)),
            ("apart", (-1, 0), (-5, 1))))
        self.assertEqual(claim_led((1, 1, 0, 1, 0, 0), stand)[1], ("apart", (-1, 1), (-5, 1)))
        free = (("free", POINT, SPOT, (0, 0), (1, 0)), ("free", None, None))
        self.assertEqual(claim_led(SLANT, free)[1], ("free", None, None))
        first = (("leg", POINT, SPOT, (3, -2), (1, 0)), ("first", (0, 1), fine((3, -2)), None))
        self.assertEqual(claim_led((1, 0, 0, 1, 7, 0), first)[1], ("first", (0, 1), fine((10, -2)), None))
        touch = (("stand", POINT, STRETCH, (2, 1)), ("touch", fine((2, 1)), None))
        self.assertEqual(claim_led(OVER, touch)[1], ("touch", fine((2, -1)), None))
        short = (("rest", SQUARE, WEDGE), ("short", (1, 0), 1, 4))
        self.assertEqual(claim_led((0, 1, 1, 0, 5, 5), short)[1], ("short", (0, -1), 1, 4))
        self.assertEqual(claim_led((0, -1, 1, 0, 5, 5), short)[1], ("short", (0, 1), 1, 4))
        rest = (("rest", WEDGE, SPOT), rest_paper(WEDGE, SPOT))
        self.assertEqual(claim_led((1, 0, 0, 1, 5, 5), rest)[1], rest[1])

    def test_too_far(self):
        stand = told_claim(("stand", SQUARE, WEDGE, (5, 0)))
        for grid in ((1, 0, 0, 1, BIG, 0), (1, 0, 0, 1, 0, -BIG - 1), GREAT_MAP, (1, BIG, 0, 1, 0, 0)):
            assert_raises_told(self, NoMap, grid, claim_led, grid, stand)
        near = (1, 0, 0, 1, BIG - 4, -BIG)
        self.assertIs(is_right(claim_led(near, stand)), True)
        leg = told_claim(("leg", POINT, POINT, (0, 0), (10 * BIG, 1)))
        assert_raises_told(self, NoMap, (1, 1, 0, 1, 0, 0), claim_led, (1, 1, 0, 1, 0, 0), leg)
        self.assertIs(is_right(claim_led((0, -1, 1, 0, 0, 0), leg)), True)
        sweep = told_claim(("sweep", POINT, (0, 0), ((10 * BIG, 0), (0, 1)), POINT))
        assert_raises_told(self, NoMap, (11, 1, 10, 1, 0, 0), claim_led, (11, 1, 10, 1, 0, 0), sweep)
        # Papers may have numbers of any size.
        wide = (stand[0], ("apart", (-10 ** 99, 0), (-5 * 10 ** 99, 1)))
        self.assertIs(is_right(claim_led(SLANT, wide)), True)
        # No claim comes ahead of that.
        wrong = (stand[0], ())
        assert_raises_told(self, NoClaim, wrong, claim_led, GREAT_MAP, wrong)

    def test_wrong(self):
        good = told_claim(("stand", SQUARE, WEDGE, (5, 0)))
        others = tuple(told_claim(question) for question, _ in all_questions() if question[0] not in LED)
        wrong = ODD_THINGS + others + ((good[0], ()), good[0], list(good), (good[0], list(good[1])),
                                       (good[0], ("touch",)))
        check_wrong(self, claim_led, self.names, (SLANT, good), [rows_of(WRONG_MAPS, NoMap), rows_of(wrong, NoClaim)])


if __name__ == "__main__":
    unittest.main()
