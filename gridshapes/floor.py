"""A live floor: deeds done, taken back and done again, also on trial."""

from gridshapes.boards import Board, is_index, is_place, is_walk, row_along, row_end, trails_from
from gridshapes.corners import moved_corners
from gridshapes.errors import (
    NoFloor, NoMenu, NoMoment, NoMove, NoPlace, NoShape, NoVector, NothingBack, TooMany)
from gridshapes.numbers import is_number, is_point, is_vector
from gridshapes.shoves import is_full_round
from gridshapes.ways import SHAPES_MOST, is_floor


class Live:
    """A floor and a shift that stands free, and the line of the deeds by which they came to be.

    Each step is a triple: a deed, None of the beginning, and the board and the shift behind it.
    """

    def __init__(self, floor, t):
        if not is_floor(floor):
            raise NoFloor(floor)
        board = Board(floor)
        if not is_place(board.box, t) or board.hits(t):
            raise NoPlace(t)
        # The steps that cannot be taken back now, the beginning ahead of all; those that can; and those taken back.
        self._ahead = [(None, board, t)]
        self._done = []
        self._back = []

    def _steps(self):
        return self._ahead + self._done

    def _now(self):
        """The board and the shift."""
        _, board, t = self._done[-1] if self._done else self._ahead[-1]
        return board, t

    def _do(self, deed, board, t):
        self._done.append((deed, board, t))
        self._back = []

    def floor(self):
        board, _ = self._now()
        return board.whole

    def place(self):
        _, t = self._now()
        return t

    def deeds(self):
        return [deed for deed, _, _ in self._steps()[1:]]

    def was(self, moment):
        if not is_number(moment) or not 0 <= moment < len(self._steps()):
            raise NoMoment(moment)
        _, board, t = self._steps()[moment]
        return (board.whole, t)

    def lead(self, row):
        board, t = self._now()
        goal = row_end(board, t, row) if is_walk(board.moves, row) else None
        if goal is None:
            raise NoMove(row)
        self._do(("row", row), board, goal)

    def lead_to(self, goal):
        board, t = self._now()
        row = row_along(trails_from(board, t, ()), goal) if is_place(board.box, goal) else None
        if row is None:
            raise NoPlace(goal)
        self._do(("row", row), board, goal)

    def _with_shapes(self, shapes):
        """The board with these shapes."""
        board, _ = self._now()
        return Board((shapes, board.mover, board.moves, board.box))

    def lift(self, number):
        board, t = self._now()
        if not is_index(number, board.shapes):
            raise NoMenu(number)
        shapes = board.shapes[:number] + board.shapes[number + 1:]
        self._do(("lift", number), self._with_shapes(shapes), t)

    def lay(self, shape):
        board, t = self._now()
        if not is_full_round(shape):
            raise NoShape(shape)
        if len(board.shapes) == SHAPES_MOST:
            raise TooMany(SHAPES_MOST)
        laid = self._with_shapes(board.shapes + (shape,))
        if laid.hits(t):
            raise NoPlace(shape)
        self._do(("lay", shape), laid, t)

    def put(self, number, v):
        board, t = self._now()
        if not is_index(number, board.shapes):
            raise NoMenu(number)
        if not is_vector(v):
            raise NoVector(v)
        shape = moved_corners(board.shapes[number], v)
        if not all([is_point(corner) for corner in shape]):
            raise NoVector(v)
        laid = self._with_shapes(board.shapes[:number] + (shape,) + board.shapes[number + 1:])
        if laid.hits(t):
            raise NoPlace(v)
        self._do(("put", number, v), laid, t)

    def undo(self):
        if not self._done:
            raise NothingBack("undo")
        self._back.append(self._done.pop())

    def redo(self):
        if not self._back:
            raise NothingBack("redo")
        self._done.append(self._back.pop())

    def __len__(self):
        return len(self._done)

    def trying(self, guest, *, kept=False):
        ahead, done, back = self._ahead, self._done, self._back
        self._ahead, self._done, self._back = ahead + done, [], []
        try:
            told = guest(self)
            steps = self._done
        finally:
            self._ahead, self._done, self._back = ahead, done, back
        if kept is True and steps:
            deeds = tuple([deed for deed, _, _ in steps])
            _, board, t = steps[-1]
            self._do(("together", deeds), board, t)
        return told

    def twin(self):
        steps = self._steps()
        _, board, t = steps[0]
        other = Live(board.whole, t)
        other._done = steps[1:]
        other._back = list(self._back)
        return other

    def __eq__(self, other):
        return isinstance(other, Live) and self.was(0) == other.was(0) and self.deeds() == other.deeds()
