"""Floors without checks: what is hit, which moves go, and what is reached."""

from gridshapes.corners import borders_by
from gridshapes.legs import stand_borders, swept_corners
from gridshapes.numbers import is_number, is_number_pair, turned_about, vector_sum
from gridshapes.shifting import stand_corners
from gridshapes.shoves import is_deep

ROW_MOST = 400


class Board:
    """A floor, with what is in the way of its moves as far as it has been asked."""

    def __init__(self, floor):
        self.whole = floor
        self.shapes, self.mover, self.moves, self.box = floor
        self.stands = [stand_borders(self.mover, shape) for shape in self.shapes]
        self.barriers = {}
        self.known = {}

    def hits(self, t):
        """The indexes of the shapes that the mover overlaps at a shift."""
        return [index for index, borders in enumerate(self.stands) if is_deep(borders, t)]

    def barriers_to(self, number):
        """For each shape the walls of all shifts from which the mover comes to overlap it by a move."""
        if number not in self.barriers:
            back = turned_about(self.moves[number])
            rows = [swept_corners(stand_corners(self.mover, shape), (0, 0), back) for shape in self.shapes]
            self.barriers[number] = [borders_by(row) for row in rows]
        return self.barriers[number]

    def blockers(self, t, number):
        """The indexes of the shapes that the mover overlaps at some moment of a move, the first and the last too."""
        if (t, number) not in self.known:
            barriers = self.barriers_to(number)
            self.known[(t, number)] = [index for index, borders in enumerate(barriers) if is_deep(borders, t)]
        return self.known[(t, number)]


def is_place(box, value):
    """Whether any value is a shift."""
    if not is_number_pair(value):
        return False
    (low_x, low_y), (high_x, high_y) = box
    x, y = value
    return low_x <= x <= high_x and low_y <= y <= high_y


def is_index(value, things):
    """Whether any value is the index of one of the things."""
    return is_number(value) and 0 <= value < len(things)


def are_unlike(values):
    return len({value: True for value in values}) == len(values)


def is_walk(moves, value):
    """Whether any value is a row of indexes of moves."""
    if not isinstance(value, tuple) or len(value) > ROW_MOST:
        return False
    return all([is_index(number, moves) for number in value])


def goal_by(board, t, number, lot):
    """Where a move goes from t without the shapes of a lot, None if it is stopped."""
    goal = vector_sum(t, board.moves[number])
    if not is_place(board.box, goal):
        return None
    return None if [index for index in board.blockers(t, number) if index not in lot] else goal


def goals_by(board, t, lot):
    """The pairs of a move that goes from t, and where it leads."""
    rows = [(number, goal_by(board, t, number, lot)) for number in range(len(board.moves))]
    return [(number, goal) for number, goal in rows if goal is not None]


def row_end(board, t, row):
    """Where a row leads from t, None if it leads nowhere."""
    if board.hits(t):
        return None
    for number in row:
        t = goal_by(board, t, number, ())
        if t is None:
            return None
    return t


def trails_from(board, t, lot):
    """The dict from all that is reached without the shapes of a lot to triples: distance, shift ahead, last move.

    Nearer shifts stand ahead of farther ones, and of those at one distance the one with the first told row ahead.
    """
    if [index for index in board.hits(t) if index not in lot]:
        return {}
    trails = {t: (0, None, None)}
    level = [t]
    distance = 0
    while level:
        distance += 1
        farther = []
        for shift in level:
            for number, goal in goals_by(board, shift, lot):
                if goal not in trails:
                    trails[goal] = (distance, shift, number)
                    farther.append(goal)
        level = farther
    return trails


def row_along(trails, goal):
    """The told row to a shift, None if it is not reached."""
    if goal not in trails:
        return None
    numbers = []
    _, shift, number = trails[goal]
    while shift is not None:
        numbers.append(number)
        _, shift, number = trails[shift]
    return tuple(numbers[::-1])


def leading_back(board, trails, t):
    """All shifts of the trails from which rows lead to t."""
    sources = {shift: [] for shift in trails}
    for shift in trails:
        for _, goal in goals_by(board, shift, ()):
            sources[goal].append(shift)
    found = {shift: True for shift in trails if shift == t}
    waiting = list(found)
    while waiting:
        here = waiting.pop()
        for shift in sources[here]:
            if shift not in found:
                found[shift] = True
                waiting.append(shift)
    return list(found)


def do_lead_into(board, lot, others):
    """Whether each move that goes from one of a lot of shifts leads to one of the others."""
    places = {shift: True for shift in others}
    for shift in lot:
        for _, goal in goals_by(board, shift, ()):
            if goal not in places:
                return False
    return True
