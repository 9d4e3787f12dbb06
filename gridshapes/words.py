"""The words of texts: numbers, fractions and values, written and read."""

from math import gcd

from gridshapes.numbers import is_number

FIGURES_MOST = 200
# The least number with more figures; as a product, since no power here may be by more than 64.
NUMBER_END = 10 ** 50 * 10 ** 50 * 10 ** 50 * 10 ** 50
LETTERS_MOST = 12
ITEMS_MOST = 400
DEPTH_MOST = 12
FIGURES = "0123456789"
LETTERS = "abcdefghijklmnopqrstuvwxyz"


def are_signs(text, signs, most):
    """Whether a text has one to so many signs, all of these."""
    return 1 <= len(text) <= most and all([sign in signs for sign in text])


def is_letter_word(text):
    return are_signs(text, LETTERS, LETTERS_MOST)


def is_number_word(text):
    figures = text[1:] if text[:1] == "-" else text
    if not are_signs(figures, FIGURES, FIGURES_MOST):
        return False
    return figures[0] != "0" or text == "0"


def is_fraction_word(text):
    if is_number_word(text):
        return True
    top, _, bottom = text.partition("/")
    if not is_number_word(top) or not is_number_word(bottom):
        return False
    return int(bottom) > 1 and gcd(int(top), int(bottom)) == 1


def fraction_read(text):
    top, _, bottom = text.partition("/")
    return (int(top), int(bottom) if bottom else 1)


def fraction_written(fraction):
    top, bottom = fraction
    return str(top) if bottom == 1 else f"{top}/{bottom}"


def is_short(number):
    """Whether a number has no more figures than are let."""
    return abs(number) < NUMBER_END


def is_value_within(value, depth):
    """Whether anything is a value of so many tuples one in another at most."""
    if isinstance(value, tuple):
        return depth > 0 and len(value) <= ITEMS_MOST and all([is_value_within(item, depth - 1) for item in value])
    if isinstance(value, str):
        return is_letter_word(value)
    return value is None or (is_number(value) and is_short(value))


def value_words(value):
    if value is None:
        return ["."]
    if not isinstance(value, tuple):
        return [str(value)]
    words = ["("]
    for item in value:
        words.extend(value_words(item))
    return words + [")"]


def is_one_value(words):
    """Whether words are those of one value, however many tuples one in another, whose brackets close."""
    depth = ended = 0
    for word in words:
        # Nothing goes on behind a value that has ended.
        if ended == 1:
            return False
        if word == "(":
            depth += 1
        elif word == ")":
            depth -= 1
        elif word != "." and not is_number_word(word) and not is_letter_word(word):
            return False
        if depth < 0:
            return False
        if depth == 0:
            ended = 1
    return ended == 1


def single_read(word):
    """The value of a word that is no bracket."""
    if word == ".":
        return None
    return word if is_letter_word(word) else int(word)


def value_read(words):
    """The value of the words of one; perhaps too deep or too long to be one."""
    rows = [[]]
    for word in words:
        if word == "(":
            rows.append([])
        elif word == ")":
            row = rows.pop()
            rows[-1].append(tuple(row))
        else:
            rows[-1].append(single_read(word))
    return rows[0][0]
