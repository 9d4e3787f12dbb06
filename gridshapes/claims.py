"""Claims: questions with papers, which of them are right, what they say, and where grid maps lead them."""

from gridshapes.answers import is_right_paper, told_paper
from gridshapes.errors import NoClaim, NoMap
from gridshapes.leading import LED_WORDS, paper_led, question_led
from gridshapes.likeness import need_grid
from gridshapes.numbers import is_row
from gridshapes.questions import has_parts

CLAIMS_MOST = 100

# Behind these first words of papers what is asked is so.
YES_WORDS = ("point", "first", "free", "shove", "fits", "by", "flaw", "met", "rest", "like", "row", "least")

# The first words of right papers, ascending.
WORDS = {
    "stand": ("apart", "overlap", "touch"),
    "common": ("none", "point"),
    "leg": ("apart", "first"),
    "free": ("free", "overlaps"),
    "shove": ("apart", "shove", "touch"),
    "fit": ("fits", "none"),
    "reach": ("by", "never"),
    "greatest": ("greatest",),
    "flaw": ("flaw", "parted"),
    "sweep": ("clear", "met"),
    "rest": ("rest", "short"),
    "like": ("corners", "like", "rim", "twice", "unlike"),
    "way": ("hit", "row", "shut"),
    "least": ("hit", "least", "shut"),
}


def is_question(value):
    return has_parts(value)


def need_question(question):
    if not has_parts(question):
        raise NoClaim(question)


def is_claim(value):
    return (isinstance(value, tuple) and len(value) == 2
            and has_parts(value[0]) and isinstance(value[1], tuple))


def has_no_list(value):
    """Whether a paper, of few tuples one in another, has tuples for all lists."""
    if isinstance(value, tuple):
        return all([has_no_list(part) for part in value])
    return not isinstance(value, list)


def is_right(value):
    if not is_claim(value):
        return False
    question, paper = value
    # A paper that is right is not deep, so that one can go through it.
    return is_right_paper(question[0], question[1:], paper) and has_no_list(paper)


def told_claim(question):
    need_question(question)
    return (question, told_paper(question[0], question[1:]))


def need_right(claim):
    if not is_right(claim):
        raise NoClaim(claim)


def sense_of(claim):
    need_right(claim)
    question, paper = claim
    if question[0] == "stand":
        return paper[0]
    if question[0] == "greatest":
        return paper[1]
    return "yes" if paper[0] in YES_WORDS else "no"


def words_of(question):
    need_question(question)
    return WORDS[question[0]]


def claim_led(grid, claim):
    need_grid(grid)
    need_right(claim)
    question, paper = claim
    if question[0] not in LED_WORDS:
        raise NoClaim(claim)
    led = question_led(grid, question)
    if not has_parts(led):
        raise NoMap(grid)
    return (led, paper_led(grid, paper))


def first_wrong(claims):
    if not is_row(claims, 0, CLAIMS_MOST):
        raise NoClaim(None)
    for index, claim in enumerate(claims):
        if not is_right(claim):
            return index
    return None
