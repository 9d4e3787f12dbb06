"""Where grid maps lead questions and their papers, without checks."""

from gridshapes.gridmaps import shape_by_grid, turn_by, vector_by
from gridshapes.numbers import dot, turned_about
from gridshapes.questions import PARTS
from gridshapes.ratios import ratio_sum
from gridshapes.triples import fine_point_of, lowest_terms, triple_of

# The words of the questions that grid maps lead.
LED_WORDS = ("stand", "leg", "free", "shove", "sweep", "rest")


def part_led(grid, kind, part):
    """A part of a question: shapes are led, all else in these questions is led as vectors are."""
    if kind in ("round", "full"):
        return shape_by_grid(grid, part)
    if kind == "vectors":
        return tuple([vector_by(grid, vector) for vector in part])
    return vector_by(grid, part)


def question_led(grid, question):
    word, *parts = question
    led = [part_led(grid, kind, part) for kind, part in zip(PARTS[word], parts)]
    return (word, *led)


def fine_led(grid, p):
    x, y, w = triple_of(p)
    a, b, c, d, e, f = grid
    return fine_point_of(lowest_terms(a * x + b * y + e * w, c * x + d * y + f * w, w))


def direction_led(grid, u):
    """The vector whose dot with each led vector is that of u with the vector."""
    a, b, c, d, _, _ = grid
    x, y = u
    turn = turn_by(grid)
    return (turn * (d * x - c * y), turn * (a * y - b * x))


def line_led(grid, u, c):
    """A direction and a fraction; perhaps None and None."""
    if u is None:
        return (None, None)
    led = direction_led(grid, u)
    return (led, ratio_sum(c, (dot(led, (grid[4], grid[5])), 1)))


def pair_led(grid, line):
    """A pair of a direction and a fraction, or None."""
    if line is None:
        return None
    u, c = line
    return line_led(grid, u, c)


def rest_led(grid, shape):
    a, b, c, d, _, _ = grid
    return shape_by_grid((a, b, c, d, 0, 0), shape)


def side_led(grid, u):
    """The bare vector of a side: where a map turns shapes over, they are gone round the other way."""
    led = vector_by(grid, u)
    return led if turn_by(grid) > 0 else turned_about(led)


def paper_led(grid, paper):
    """A right paper of a question that grid maps lead."""
    word, *parts = paper
    if word in ("apart", "free"):
        u, c = line_led(grid, parts[0], parts[1])
        return (word, u, c)
    if word == "overlap":
        return (word, fine_led(grid, parts[0]))
    if word == "touch":
        return (word, fine_led(grid, parts[0]), pair_led(grid, parts[1]))
    if word == "first":
        moment, p, u = parts
        return (word, moment, fine_led(grid, p), None if u is None else direction_led(grid, u))
    if word == "overlaps":
        return (word, parts[0], fine_led(grid, parts[1]))
    if word == "shove":
        moment, q, p, line = parts
        return (word, moment, fine_led(grid, q), fine_led(grid, p), pair_led(grid, line))
    if word == "met":
        return (word, parts[0], parts[1], fine_led(grid, parts[2]))
    if word == "clear":
        return (word, tuple([pair_led(grid, line) for line in parts[0]]))
    if word == "rest":
        return (word, rest_led(grid, parts[0]))
    bare, length, due = parts
    return (word, side_led(grid, bare), length, due)
