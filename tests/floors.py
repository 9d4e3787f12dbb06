"""Floors at random, values that are no floors, and a second way of reckoning with them."""

import functools
import itertools
import random
from fractions import Fraction

from tests.reckon import (
    BIG, FULL_SHAPES, LEVEL, POINT, SQUARE, WEDGE, cornered, differences, pair, place, plus, random_full, shifted)
from tests.test_moving import second_times
from tests.wrong import ODD_THINGS

CROSS = ((1, 0), (0, 1), (-1, 0), (0, -1))
UPRIGHT = ((2, 0), (3, 0), (3, 2), (2, 2))
BOX = ((0, 0), (4, 4))
FLOOR = ((UPRIGHT,), SQUARE, CROSS, BOX)
OPEN = ((), SQUARE, CROSS, BOX)
SIDES = [((k, -40), (k + 1, -40), (k + 1, 40), (k, 40)) for k in (2, 4, 6, 8, 10)]
# Five uprights from side to side: all have to be lifted.
BARRED = (tuple(SIDES), SQUARE, CROSS, ((0, 0), (14, 14)))

WRONG_FLOORS = ODD_THINGS + (
    list(FLOOR), FLOOR[:3], FLOOR + (None,), ([UPRIGHT], SQUARE, CROSS, BOX), ((UPRIGHT,), list(SQUARE), CROSS, BOX),
    ((UPRIGHT,), SQUARE, list(CROSS), BOX), ((UPRIGHT,), SQUARE, CROSS, list(BOX)), ((POINT,), SQUARE, CROSS, BOX),
    ((UPRIGHT, LEVEL), SQUARE, CROSS, BOX), ((UPRIGHT,), LEVEL, CROSS, BOX), ((UPRIGHT,), POINT, CROSS, BOX),
    ((UPRIGHT,) * 6, SQUARE, CROSS, BOX), ((UPRIGHT, None), SQUARE, CROSS, BOX), (None, SQUARE, CROSS, BOX),
    ((UPRIGHT,), SQUARE, (), BOX), ((UPRIGHT,), SQUARE, ((1, 0), (1, 0)), BOX), ((UPRIGHT,), SQUARE, ((0, 0),), BOX),
    ((UPRIGHT,), SQUARE, tuple((k, 1) for k in range(9)), BOX), ((UPRIGHT,), SQUARE, ((1, True),), BOX),
    ((UPRIGHT,), SQUARE, ([1, 0],), BOX), ((UPRIGHT,), SQUARE, ((10 * BIG + 1, 0),), BOX),
    ((UPRIGHT,), SQUARE, CROSS, ((0, 0),)), ((UPRIGHT,), SQUARE, CROSS, ((0, 0), (1, 1), (2, 2))),
    ((UPRIGHT,), SQUARE, CROSS, ((0, 0), (15, 0))), ((UPRIGHT,), SQUARE, CROSS, ((0, 0), (0, 15))),
    ((UPRIGHT,), SQUARE, CROSS, ((0, 0), (-1, 0))), ((UPRIGHT,), SQUARE, CROSS, ((0, 0), (0, -1))),
    ((UPRIGHT,), SQUARE, CROSS, ((BIG, 0), (BIG + 1, 0))), ((UPRIGHT,), SQUARE, CROSS, ((0, 0), [1, 1])),
    ((UPRIGHT,), SQUARE, CROSS, ((0, False), (1, 1))), (((SQUARE,),), SQUARE, CROSS, BOX),
    (UPRIGHT, SQUARE, CROSS, BOX),
    ((cornered(61),), SQUARE, CROSS, BOX), ((UPRIGHT,), SQUARE[::-1], CROSS, BOX), ((UPRIGHT,), SQUARE, None, BOX),
    ((UPRIGHT,), SQUARE, CROSS, None), ((UPRIGHT,), SQUARE, CROSS, (None, None)))

WRONG_PLACES = ODD_THINGS + (
    (5, 0), (0, 5), (-1, 0), (0, -1), [0, 0], (0, 0, 0), (0,), (True, 0), (0, False), ((0, 1), (0, 1)), (0, None),
    ("0", 0), (0.0, 0), (BIG, 0))


def random_floor(rng, most=4):
    """A floor with a small box, in which some shapes lie."""
    size = rng.randint(1, most)
    low = (rng.randint(-3, 3), rng.randint(-3, 3))
    box = (low, plus(low, (size, rng.randint(0, size))))
    mover = rng.choice(FULL_SHAPES[:2]) if rng.randint(0, 2) else random_full(rng, 2, 4)
    ways = [(x, y) for x in (-2, -1, 0, 1, 2) for y in (-2, -1, 0, 1, 2) if (x, y) != (0, 0)]
    moves = list(CROSS) if rng.randint(0, 1) else []
    moves += rng.sample([way for way in ways if way not in moves], rng.randint(1, 8 - len(moves)))
    rng.shuffle(moves)
    shapes = []
    for _ in range(rng.randint(0, 5)):
        shape = rng.choice((SQUARE, WEDGE)) if rng.randint(0, 1) else random_full(rng, 2, 5)
        shapes.append(shifted(shape, plus(low, (rng.randint(-2, size + 2), rng.randint(-2, size + 2)))))
    return (tuple(shapes), mover, tuple(moves), box)


def floors(seed, many, most=4):
    rng = random.Random(seed)
    return [random_floor(rng, most) for _ in range(many)]


def places(floor):
    """All shifts, ascending."""
    (low_x, low_y), (high_x, high_y) = floor[3]
    return list(itertools.product(range(low_x, high_x + 1), range(low_y, high_y + 1)))


@functools.lru_cache(maxsize=None)
def stand(mover, shape):
    return differences(mover, shape)


def hits(floor, t):
    return [i for i, shape in enumerate(floor[0]) if place(stand(floor[1], shape), t) == "within"]


@functools.lru_cache(maxsize=None)
def overlapped(mover, shape, t, move):
    """The overlap time, by places at all moments at which it may begin or end."""
    return second_times(mover, shape, t, move)[1]


def in_box(floor, t):
    (low_x, low_y), (high_x, high_y) = floor[3]
    return low_x <= t[0] <= high_x and low_y <= t[1] <= high_y


def stop(floor, t, number):
    move = floor[2][number]
    if not in_box(floor, plus(t, move)):
        return ("out",)
    hit = hits(floor, t)
    if hit:
        return ("begin", hit[0])
    begins = []
    for i, shape in enumerate(floor[0]):
        times = overlapped(floor[1], shape, t, move)
        if times is not None:
            begins.append((Fraction(*times[0]), i))
    return ("way", min(begins)[1], pair(min(begins)[0])) if begins else None


@functools.lru_cache(maxsize=None)
def links(floor):
    """The dict from all shifts to the dicts from the numbers of the moves that go to where they lead."""
    return {t: {n: plus(t, move) for n, move in enumerate(floor[2]) if stop(floor, t, n) is None}
            for t in places(floor)}


def away(table, goal):
    """The dict to how many moves at least lead to the goal: by going over all moves until nothing changes."""
    far = {goal: 0}
    changed = True
    while changed:
        changed = False
        for t, goals in table.items():
            for other in goals.values():
                if other in far and far[other] + 1 < far.get(t, 10 ** 9):
                    far[t] = far[other] + 1
                    changed = True
    return far


@functools.lru_cache(maxsize=None)
def all_away(floor):
    return {goal: away(links(floor), goal) for goal in places(floor)}


def second_row(floor, table, far, t, goal):
    """The told row: always the first move behind which the goal is one move nearer (far: away from the goal)."""
    if hits(floor, t) or t not in far:
        return None
    row = []
    while t != goal:
        number = min(n for n, other in table[t].items() if far.get(other) == far[t] - 1)
        row.append(number)
        t = table[t][number]
    return tuple(row)


def do_deed(live, deed):
    """Does a deed, told as in a line, a together as a kept trial."""
    if deed[0] == "row":
        live.lead(deed[1])
    elif deed[0] == "lift":
        live.lift(deed[1])
    elif deed[0] == "lay":
        live.lay(deed[1])
    elif deed[0] == "put":
        live.put(deed[1], deed[2])
    else:
        live.trying(lambda guest: [do_deed(guest, part) for part in deed[1]], kept=True)
