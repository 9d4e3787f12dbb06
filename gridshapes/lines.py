"""Which lines fit at their places in texts of things and of live floors."""

from gridshapes.words import is_fraction_word, is_number_word, is_one_value

# For each place in a text the first words that lines can have there, each with the place behind such a line.
PLACES = {
    "live": (("floor", "floor"),),
    "thing": (
        ("value", "end"), ("point", "end"), ("round", "end"), ("fine", "end"), ("loop", "end"), ("map", "end"),
        ("pieces", "pieces"), ("walls", "walls"), ("floor", "floor")),
    "pieces": (("loop", "loops"),),
    "loops": (("loop", "loops"),),
    "walls": (("wall", "more walls"),),
    "more walls": (("wall", "more walls"),),
    "floor": (("lies", "floor"), ("mover", "mover")),
    "mover": (("move", "moves"),),
    "moves": (("move", "moves"), ("box", "box")),
    "box": (("at", "deeds"),),
    "deeds": (("row", "deeds"), ("lift", "deeds"), ("lay", "deeds"), ("put", "deeds"), ("together", "deeds")),
    "end": (),
}

# The places at which a text of a thing can end, and one of a live floor.
THING_ENDS = ("end", "loops", "more walls", "box")
LIVE_ENDS = ("deeds",)

# How many numbers stand behind a first word, and how many corners at least.
NUMBERS = {
    "point": 2, "map": 6, "pieces": 0, "walls": 0, "floor": 0, "move": 2, "box": 4, "at": 2, "lift": 1, "put": 3}
CORNERS = {"round": 1, "loop": 3, "lies": 1, "mover": 1, "lay": 1}


def are_number_words(words):
    return all([is_number_word(word) for word in words])


def are_corner_words(words, least):
    """Whether words are the numbers of so many corners at least."""
    return len(words) >= 2 * least and len(words) % 2 == 0 and are_number_words(words)


def are_fine_words(words):
    if words == ["."]:
        return True
    return len(words) > 1 and len(words) % 2 == 0 and all([is_fraction_word(word) for word in words])


def has_form(first, words):
    """Whether these words can stand behind the first word of a line."""
    if first in NUMBERS:
        return len(words) == NUMBERS[first] and are_number_words(words)
    if first in CORNERS:
        return are_corner_words(words, CORNERS[first])
    if first == "value":
        return is_one_value(words)
    if first == "fine":
        return are_fine_words(words)
    if first == "wall":
        return len(words) == 3 and are_number_words(words[:2]) and is_fraction_word(words[2])
    if first == "together":
        return len(words) == 1 and is_number_word(words[0]) and int(words[0]) > 0
    return are_number_words(words)


def place_behind(place, first):
    """The place behind a line with this first word, None if there can be none here."""
    for word, behind in PLACES[place]:
        if word == first:
            return behind
    return None


def scanned(lines, place, last):
    """How many lines fit, the place behind them, and how many deeds of togethers are due there.

    The first line stands at the place; nothing fits behind the place that is named last.
    """
    due = 0
    for index, line in enumerate(lines):
        first, *words = line.split(" ")
        behind = place_behind(place, first)
        if place == last or behind is None or not has_form(first, words):
            return (index, place, due)
        if due > 0:
            due -= 1
        if first == "together":
            due += int(words[0])
        place = behind
    return (len(lines), place, due)
