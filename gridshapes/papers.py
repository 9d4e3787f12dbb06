"""What the papers of all kinds are asked."""

from gridshapes.numbers import is_number_pair


def has_word(value, word, many):
    """Whether any value is a tuple of so many things, the first of which is this word."""
    return isinstance(value, tuple) and len(value) == many and isinstance(value[0], str) and value[0] == word


def are_number_pairs(value):
    """Whether any value is a tuple of pairs of numbers of any size."""
    return isinstance(value, tuple) and all([is_number_pair(pair) for pair in value])
