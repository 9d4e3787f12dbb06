"""The lines of things and of deeds."""

from gridshapes.words import fraction_written, value_words


def number_line(first, numbers):
    return " ".join([first] + [str(number) for number in numbers])


def corner_line(first, corners):
    numbers = []
    for corner in corners:
        numbers.extend(corner)
    return number_line(first, numbers)


def fine_line(fine):
    if fine is None:
        return "fine ."
    words = ["fine"]
    for x, y in fine:
        words.append(fraction_written(x))
        words.append(fraction_written(y))
    return " ".join(words)


def border_line(border):
    (x, y), c = border
    return f"wall {x} {y} {fraction_written(c)}"


def floor_lines(floor):
    shapes, mover, moves, box = floor
    lines = ["floor"] + [corner_line("lies", shape) for shape in shapes]
    lines.append(corner_line("mover", mover))
    lines.extend([corner_line("move", [move]) for move in moves])
    lines.append(corner_line("box", box))
    return lines


def thing_lines(thing):
    first, told = thing
    if first == "value":
        return [" ".join(["value"] + value_words(told))]
    if first == "point":
        return [corner_line("point", [told])]
    if first == "fine":
        return [fine_line(told)]
    if first == "map":
        return [number_line("map", told)]
    if first == "pieces":
        return ["pieces"] + [corner_line("loop", loop) for loop in told]
    if first == "walls":
        return ["walls"] + [border_line(border) for border in told]
    if first == "floor":
        return floor_lines(told)
    return [corner_line(first, told)]


def deed_lines(deed):
    """The line of a deed; of a together its own and those of its deeds."""
    first = deed[0]
    if first == "row":
        return [number_line("row", deed[1])]
    if first == "lift":
        return [number_line("lift", [deed[1]])]
    if first == "lay":
        return [corner_line("lay", deed[1])]
    if first == "put":
        _, index, vector = deed
        return [number_line("put", [index, *vector])]
    lines = [number_line("together", [len(deed[1])])]
    for part in deed[1]:
        lines.extend(deed_lines(part))
    return lines
