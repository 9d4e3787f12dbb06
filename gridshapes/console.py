"""A console: keeps lines, and has a live floor or none."""

from gridshapes.areas import core_of, rim_of, twice_area
from gridshapes.errors import NoLine, ShapeError, TooMany
from gridshapes.lines import are_corner_words, are_number_words
from gridshapes.reading import in_pairs
from gridshapes.texts import lines_due, read_live, read_text, write_live, write_value
from gridshapes.ways import hit_at, reached_from, stopped_by, way_paper

KEPT_LINES = ("drop", "fits", "thing", "twice", "rim", "inside", "begin")

# How many numbers stand behind the first word of a line that asks the live floor, or changes it.
LIVE_LINES = {
    "to": 2, "lift": 1, "put": 3, "undo": 0, "redo": 0, "place": 0, "shapes": 0, "deeds": 0, "was": 1, "goes": 1,
    "hit": 2, "way": 2, "reached": 0, "show": 0}


def has_form(first, words):
    """Whether a line with this first word and these words behind it is one that a console knows."""
    if first in KEPT_LINES:
        return words == []
    if first in LIVE_LINES:
        return len(words) == LIVE_LINES[first] and are_number_words(words)
    if first == "lay":
        return are_corner_words(words, 1)
    return first == "row" and are_number_words(words)


def pair_text(point):
    x, y = point
    return f"{x} {y}"


def shape_answer(first, thing):
    """What is asked of a kept thing, if it is a round shape."""
    if thing[0] != "round":
        return "error"
    if first == "twice":
        return str(twice_area(thing[1]))
    return str(rim_of(thing[1]) if first == "rim" else core_of(thing[1]))


def kept_answer(first, text):
    """What is asked of the kept lines."""
    if first == "fits":
        return str(lines_due(text))
    thing = read_text(text)
    return thing[0] if first == "thing" else shape_answer(first, thing)


def change(live, first, numbers):
    """Whether the line is one that changes the live floor; it does so then."""
    if first == "row":
        live.lead(tuple(numbers))
    elif first == "to":
        live.lead_to(tuple(numbers))
    elif first == "lift":
        live.lift(numbers[0])
    elif first == "lay":
        live.lay(in_pairs(numbers))
    elif first == "put":
        live.put(numbers[0], tuple(numbers[1:]))
    elif first == "undo":
        live.undo()
    elif first == "redo":
        live.redo()
    else:
        return False
    return True


def goes_answer(live, number):
    stop = stopped_by(live.floor(), live.place(), number)
    return "goes" if stop is None else write_value(stop)


def live_answer(live, first, numbers):
    """What is asked of the live floor."""
    if first == "place":
        return pair_text(live.place())
    if first == "shapes":
        return str(len(live.floor()[0]))
    if first == "deeds":
        return str(len(live.deeds()))
    if first == "was":
        return pair_text(live.was(numbers[0])[1])
    if first == "goes":
        return goes_answer(live, numbers[0])
    if first == "hit":
        return write_value(tuple(hit_at(live.floor(), tuple(numbers))))
    if first == "way":
        return write_value(way_paper(live.floor(), live.place(), tuple(numbers)))
    if first == "reached":
        return str(len(reached_from(live.floor(), live.place())))
    return str(len(write_live(live).split("\n")))


class Console:
    """Answers lines."""

    def __init__(self):
        self._lines = []
        self._live = None

    def _of_kept(self, first):
        if first == "drop":
            self._lines = []
            return "ok"
        text = "\n".join(self._lines)
        if first == "begin":
            self._live = read_live(text)
            return "ok"
        return kept_answer(first, text)

    def _of_live(self, first, numbers):
        if self._live is None:
            return "error"
        if change(self._live, first, numbers):
            return "ok"
        return live_answer(self._live, first, numbers)

    def run(self, line):
        if not isinstance(line, str):
            raise NoLine(line)
        if "\n" in line:
            return "unknown"
        if line[:1] == "+":
            self._lines.append(line[1:])
            return "ok"
        first, *words = line.split(" ")
        if not has_form(first, words):
            return "unknown"
        try:
            if first in KEPT_LINES:
                return self._of_kept(first)
            return self._of_live(first, [int(word) for word in words])
        except (ShapeError, TooMany):
            return "error"
