"""Questions: a word and the parts of what is asked."""

from gridshapes.boards import is_place
from gridshapes.commons import SHAPES_MOST
from gridshapes.numbers import is_direction, is_fine_point, is_point, is_vector
from gridshapes.pieces import PIECES_MOST
from gridshapes.rounds import is_round
from gridshapes.shoves import is_full_round
from gridshapes.simples import is_simple
from gridshapes.sweeps import LEGS_MOST
from gridshapes.ways import is_floor

# The kinds of the parts behind the word.
PARTS = {
    "stand": ("round", "round", "point"),
    "common": ("rounds",),
    "leg": ("round", "round", "point", "vector"),
    "free": ("round", "round", "point", "vector"),
    "shove": ("full", "full", "point", "direction"),
    "fit": ("round", "round"),
    "reach": ("round", "round", "fine"),
    "greatest": ("growing", "round"),
    "flaw": ("simple", "simples"),
    "sweep": ("round", "point", "vectors", "round"),
    "rest": ("round", "round"),
    "like": ("round", "round"),
    "way": ("floor", "any", "any"),
    "least": ("floor", "any", "any"),
}


def is_tuple_of(kind, value, most):
    """Whether any value is a tuple of one to so many things of a kind."""
    return isinstance(value, tuple) and 1 <= len(value) <= most and all([is_part(kind, part) for part in value])


def is_part_of_many(kind, value):
    if kind == "rounds":
        return is_tuple_of("round", value, SHAPES_MOST)
    if kind == "vectors":
        return is_tuple_of("vector", value, LEGS_MOST)
    return is_tuple_of("simple", value, PIECES_MOST)


def is_part(kind, value):
    """Whether any value is a thing of a kind."""
    if kind == "any":
        return True
    if kind == "round":
        return is_round(value)
    if kind == "full":
        return is_full_round(value)
    if kind == "growing":
        return is_round(value) and len(value) > 1
    if kind == "simple":
        return is_simple(value)
    if kind == "point":
        return is_point(value)
    if kind == "fine":
        return is_fine_point(value)
    if kind == "vector":
        return is_vector(value)
    if kind == "direction":
        return is_direction(value)
    if kind == "floor":
        return is_floor(value)
    return is_part_of_many(kind, value)


def has_parts(value):
    """Whether any value is a tuple of a word and the parts of its question."""
    if not isinstance(value, tuple) or not value or not isinstance(value[0], str) or value[0] not in PARTS:
        return False
    kinds = PARTS[value[0]]
    if len(value) != len(kinds) + 1 or not all([is_part(kind, part) for kind, part in zip(kinds, value[1:])]):
        return False
    if kinds[0] == "floor":
        _, floor, t, goal = value
        return is_place(floor[3], t) and is_place(floor[3], goal)
    return True
