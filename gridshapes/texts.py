"""Values, things and live floors as texts, written and read."""

from gridshapes.cuts import is_border
from gridshapes.errors import BadText, NoFloor, NoThing, ShapeError
from gridshapes.floor import Live
from gridshapes.gridmaps import is_grid
from gridshapes.lines import LIVE_ENDS, THING_ENDS, scanned
from gridshapes.numbers import is_point
from gridshapes.reading import deed_done, floor_read, numbers_read, thing_read, words_behind
from gridshapes.rounds import is_fine_shape, is_round
from gridshapes.simples import is_loop
from gridshapes.ways import is_floor
from gridshapes.words import DEPTH_MOST, is_one_value, is_short, is_value_within, value_read, value_words
from gridshapes.writing import corner_line, deed_lines, floor_lines, thing_lines

PIECES_MOST = 20
WALLS_MOST = 60


def is_value(value):
    return is_value_within(value, DEPTH_MOST)


def is_tuple_loop(value):
    return isinstance(value, tuple) and is_loop(value)


def are_loops(value):
    if not isinstance(value, tuple) or not 1 <= len(value) <= PIECES_MOST:
        return False
    return all([is_tuple_loop(loop) for loop in value])


def are_borders(value):
    if not isinstance(value, tuple) or not 1 <= len(value) <= WALLS_MOST:
        return False
    return all([is_border(border) for border in value])


def are_short(value):
    """Whether all numbers in a thing have no more figures than a text lets."""
    if isinstance(value, tuple):
        return all([are_short(part) for part in value])
    return value is None or is_short(value)


def is_told_as(first, told):
    """Whether anything is what a thing with this first word tells."""
    if first == "value":
        return is_value(told)
    if first == "point":
        return is_point(told)
    if first == "round":
        return is_round(told)
    if first == "fine":
        return is_fine_shape(told) and are_short(told)
    if first == "loop":
        return is_tuple_loop(told)
    if first == "pieces":
        return are_loops(told)
    if first == "walls":
        return are_borders(told) and are_short(told)
    if first == "map":
        return is_grid(told) and are_short(told)
    return first == "floor" and is_floor(told)


def is_thing(value):
    if not isinstance(value, tuple) or len(value) != 2 or not isinstance(value[0], str):
        return False
    return is_told_as(value[0], value[1])


def write_value(value):
    if not is_value(value):
        raise NoThing(value)
    return " ".join(value_words(value))


def lines_of(text):
    if not isinstance(text, str):
        raise BadText(None)
    return text.split("\n")


def read_value(line):
    lines = lines_of(line)
    words = lines[0].split(" ")
    if not is_one_value(words):
        raise BadText(0)
    if len(lines) > 1:
        raise BadText(1)
    value = value_read(words)
    if not is_value(value):
        raise BadText(None)
    return value


def write_text(thing):
    if not is_thing(thing):
        raise NoThing(thing)
    return "\n".join(thing_lines(thing))


def need_fitting(lines, place, last, ends):
    """Lines that all fit, from a place on, and end at one of the ends."""
    many, behind, due = scanned(lines, place, last)
    if many < len(lines) or behind not in ends or due > 0:
        raise BadText(many)


def read_text(text):
    lines = lines_of(text)
    need_fitting(lines, "thing", "box", THING_ENDS)
    thing = thing_read(lines)
    if not is_thing(thing):
        raise BadText(None)
    return thing


def lines_due(text):
    many, _, _ = scanned(lines_of(text), "thing", None)
    return many


def write_live(live):
    if not isinstance(live, Live):
        raise NoFloor(live)
    floor, t = live.was(0)
    lines = floor_lines(floor) + [corner_line("at", [t])]
    for deed in live.deeds():
        lines.extend(deed_lines(deed))
    return "\n".join(lines)


def begun(lines):
    """The live floor that lines of a floor and of its shift begin."""
    try:
        return Live(floor_read(lines[:-1]), numbers_read(words_behind(lines[-1])))
    except ShapeError:
        raise BadText(None) from None


def read_live(text):
    lines = lines_of(text)
    need_fitting(lines, "live", None, LIVE_ENDS)
    behind = [line.split(" ")[0] for line in lines].index("at") + 1
    live = begun(lines[:behind])
    while behind < len(lines):
        behind = deed_done(live, lines, behind)
    return live
