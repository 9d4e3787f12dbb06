"""The papers of all questions: which are told, and which are right."""

from gridshapes.commons import accepts_none, common_point, none_paper
from gridshapes.fits import accepts_fit, accepts_reach, fit_paper, reach_paper
from gridshapes.greatest import accepts_greatest, greatest_paper
from gridshapes.likeness import accepts_like, like_paper
from gridshapes.moving import accepts_free, accepts_leg, free_paper, leg_paper
from gridshapes.numbers import is_fine_point
from gridshapes.papers import has_word
from gridshapes.pieces import accepts_flaw, first_flaw
from gridshapes.rounds import place_in
from gridshapes.shoves import shove_paper, shows_shove
from gridshapes.stands import accepts_stand, stand_paper
from gridshapes.sums import accepts_rest, rest_paper
from gridshapes.sweeps import shows_sweep, sweep_paper
from gridshapes.ways import accepts_least, accepts_way, least_paper, way_paper


def told_common(shapes):
    point = common_point(shapes)
    return none_paper(shapes) if point is None else ("point", point)


def told_shove(one, other, shift, way):
    paper = shove_paper(one, other, shift, way)
    return stand_paper(one, other, shift) if paper is None else ("shove", *paper)


def told_flaw(shape, pieces):
    flaw = first_flaw(shape, pieces)
    return ("parted",) if flaw is None else ("flaw", *flaw)


def told_least(floor, t, goal):
    paper = least_paper(floor, t, goal)
    return way_paper(floor, t, goal) if paper is None else paper


def told_paper(word, parts):
    """The told paper of the question with this word and these parts."""
    if word == "stand":
        return stand_paper(*parts)
    if word == "common":
        return told_common(*parts)
    if word == "leg":
        return leg_paper(*parts)
    if word == "free":
        return free_paper(*parts)
    if word == "shove":
        return told_shove(*parts)
    if word == "fit":
        return fit_paper(*parts)
    if word == "reach":
        return reach_paper(*parts)
    if word == "greatest":
        return greatest_paper(*parts)
    if word == "flaw":
        return told_flaw(*parts)
    if word == "sweep":
        return sweep_paper(*parts)
    if word == "rest":
        return rest_paper(*parts)
    if word == "like":
        return like_paper(*parts)
    if word == "way":
        return way_paper(*parts)
    return told_least(*parts)


def is_right_common(shapes, paper):
    if has_word(paper, "point", 2):
        return is_fine_point(paper[1]) and all([place_in(shape, paper[1]) != "out" for shape in shapes])
    return accepts_none(shapes, paper)


def is_right_shove(one, other, shift, way, paper):
    if has_word(paper, "shove", 5):
        return shows_shove(one, other, shift, way, paper[1:])
    return not has_word(paper, "overlap", 2) and accepts_stand(one, other, shift, paper)


def is_right_flaw(shape, pieces, paper):
    if has_word(paper, "parted", 1):
        return first_flaw(shape, pieces) is None
    return has_word(paper, "flaw", 4) and accepts_flaw(shape, pieces, paper[1:])


def is_right_least(floor, t, goal, paper):
    if accepts_least(floor, t, goal, paper):
        return True
    # Papers of hit and shut show that the goal is not reached.
    return not has_word(paper, "row", 2) and accepts_way(floor, t, goal, paper)


def is_right_paper(word, parts, paper):
    """Whether a tuple is a right paper of the question, perhaps with lists in it."""
    if word == "stand":
        return accepts_stand(*parts, paper)
    if word == "common":
        return is_right_common(*parts, paper)
    if word == "leg":
        return accepts_leg(*parts, paper)
    if word == "free":
        return accepts_free(*parts, paper)
    if word == "shove":
        return is_right_shove(*parts, paper)
    if word == "fit":
        return accepts_fit(*parts, paper)
    if word == "reach":
        return accepts_reach(*parts, paper)
    if word == "greatest":
        return accepts_greatest(*parts, paper)
    if word == "flaw":
        return is_right_flaw(*parts, paper)
    if word == "sweep":
        return shows_sweep(*parts, paper) is not None
    if word == "rest":
        return accepts_rest(*parts, paper)
    if word == "like":
        return accepts_like(*parts, paper)
    if word == "way":
        return accepts_way(*parts, paper)
    return is_right_least(*parts, paper)
