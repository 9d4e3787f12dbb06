"""What lines that fit tell of: things, floors and deeds, perhaps beyond their bounds."""

from gridshapes.errors import BadText, ShapeError, TooMany
from gridshapes.words import fraction_read, value_read


def numbers_read(words):
    return tuple([int(word) for word in words])


def in_pairs(things):
    return tuple([(things[k], things[k + 1]) for k in range(0, len(things), 2)])


def corners_read(words):
    return in_pairs(numbers_read(words))


def fine_read(words):
    if words == ["."]:
        return None
    return in_pairs([fraction_read(word) for word in words])


def border_read(words):
    return (numbers_read(words[:2]), fraction_read(words[2]))


def words_behind(line):
    """The words of a line behind the first one."""
    _, *words = line.split(" ")
    return words


def floor_read(lines):
    rows = {"lies": [], "mover": [], "move": [], "box": []}
    for line in lines[1:]:
        first, *words = line.split(" ")
        rows[first].append(corners_read(words))
    return (tuple(rows["lies"]), rows["mover"][0], tuple([row[0] for row in rows["move"]]), rows["box"][0])


def thing_read(lines):
    first, *words = lines[0].split(" ")
    if first == "value":
        return (first, value_read(words))
    if first == "point":
        return (first, numbers_read(words))
    if first == "fine":
        return (first, fine_read(words))
    if first == "map":
        return (first, numbers_read(words))
    if first == "pieces":
        return (first, tuple([corners_read(words_behind(line)) for line in lines[1:]]))
    if first == "walls":
        return (first, tuple([border_read(words_behind(line)) for line in lines[1:]]))
    if first == "floor":
        return (first, floor_read(lines))
    return (first, corners_read(words))


def single_done(live, first, words):
    """Does a deed that is no together."""
    if first == "row":
        live.lead(numbers_read(words))
    elif first == "lift":
        live.lift(int(words[0]))
    elif first == "lay":
        live.lay(corners_read(words))
    else:
        live.put(int(words[0]), numbers_read(words[1:]))


def deed_done(live, lines, index):
    """Does the deed of a line, and of a together those behind it; the index of the line behind."""
    first, *words = lines[index].split(" ")
    if first == "together":
        many = int(words[0])
        return live.trying(lambda guest: deeds_done(guest, lines, index + 1, many), kept=True)
    try:
        single_done(live, first, words)
    except (ShapeError, TooMany):
        raise BadText(index) from None
    return index + 1


def deeds_done(live, lines, index, many):
    """Does so many deeds from a line on; the index of the line behind them."""
    for _ in range(many):
        index = deed_done(live, lines, index)
    return index
