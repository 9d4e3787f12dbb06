"""Ways of a mover among lying shapes: which moves go, what is reached, and the papers of it."""

from itertools import combinations

from gridshapes.boards import (
    Board, are_unlike, do_lead_into, goal_by, is_index, is_place, is_walk, leading_back, row_along, row_end,
    trails_from)
from gridshapes.errors import NoFloor, NoMenu, NoMove, NoPlace
from gridshapes.legs import overlap_by
from gridshapes.numbers import is_direction, is_point, is_row, vector_sum
from gridshapes.papers import has_word
from gridshapes.ratios import least_ratio
from gridshapes.shoves import is_full_round

SHAPES_MOST = 5
MOVES_MOST = 8
BOX_MOST = 14


def are_shapes(value):
    return isinstance(value, tuple) and len(value) <= SHAPES_MOST and all([is_full_round(shape) for shape in value])


def are_moves(value):
    """Whether any value is a tuple of unlike vectors, none (0, 0)."""
    if not isinstance(value, tuple) or not is_row(value, 1, MOVES_MOST):
        return False
    return all([is_direction(move) for move in value]) and are_unlike(value)


def is_box(value):
    if not isinstance(value, tuple) or len(value) != 2 or not is_point(value[0]) or not is_point(value[1]):
        return False
    (low_x, low_y), (high_x, high_y) = value
    return 0 <= high_x - low_x <= BOX_MOST and 0 <= high_y - low_y <= BOX_MOST


def is_floor(value):
    if not isinstance(value, tuple) or len(value) != 4:
        return False
    shapes, mover, moves, box = value
    return are_shapes(shapes) and is_full_round(mover) and are_moves(moves) and is_box(box)


def need_board(floor):
    """The board of a floor."""
    if not is_floor(floor):
        raise NoFloor(floor)
    return Board(floor)


def need_place(board, t):
    if not is_place(board.box, t):
        raise NoPlace(t)


def need_start(floor, t):
    """The board of a floor for a shift."""
    board = need_board(floor)
    need_place(board, t)
    return board


def need_goal(floor, t, goal):
    """The board of a floor for two shifts."""
    board = need_start(floor, t)
    need_place(board, goal)
    return board


def need_move(floor, t, number):
    """The board of a floor for a shift and a move."""
    board = need_start(floor, t)
    if not is_index(number, board.moves):
        raise NoMove(number)
    return board


def hit_at(floor, t):
    return need_start(floor, t).hits(t)


def stands_free(floor, t):
    return hit_at(floor, t) == []


def goes(floor, t, number):
    return goal_by(need_move(floor, t, number), t, number, ()) is not None


def first_begin(board, t, number):
    """The word ("way", i, m) of what the mover, free at t, comes to overlap first; None if that is nothing."""
    rows = []
    for index, shape in enumerate(board.shapes):
        times = overlap_by(board.mover, shape, t, board.moves[number])
        if times is not None:
            rows.append((index, times[0]))
    if not rows:
        return None
    least = least_ratio([begin for _, begin in rows])
    return ("way", [index for index, begin in rows if begin == least][0], least)


def stopped_by(floor, t, number):
    board = need_move(floor, t, number)
    if not is_place(board.box, vector_sum(t, board.moves[number])):
        return ("out",)
    hits = board.hits(t)
    if hits:
        return ("begin", hits[0])
    return first_begin(board, t, number)


def led_to(floor, t, row):
    board = need_start(floor, t)
    if not is_walk(board.moves, row):
        raise NoMove(row)
    return row_end(board, t, row)


def need_trails(floor, t):
    """The trails to all that is reached."""
    return trails_from(need_start(floor, t), t, ())


def reached_from(floor, t):
    return sorted(list(need_trails(floor, t)))


def distances_from(floor, t):
    trails = need_trails(floor, t)
    return {shift: trails[shift][0] for shift in sorted(list(trails))}


def farthest_from(floor, t):
    trails = need_trails(floor, t)
    most = max([distance for distance, _, _ in trails.values()], default=0)
    return sorted([shift for shift in trails if trails[shift][0] == most])


def room_of(floor, t):
    board = need_start(floor, t)
    return sorted(leading_back(board, trails_from(board, t, ()), t))


def told_row(floor, t, goal):
    board = need_goal(floor, t, goal)
    return row_along(trails_from(board, t, ()), goal)


def are_lifted(board, value):
    """Whether any value is a list or tuple of unlike indexes of shapes."""
    if not isinstance(value, (list, tuple)) or not all([is_index(index, board.shapes) for index in value]):
        return False
    return are_unlike(value)


def is_enough_lifted(floor, t, goal, lot):
    board = need_goal(floor, t, goal)
    if not are_lifted(board, lot):
        raise NoMenu(lot)
    return goal in trails_from(board, t, lot)


def has_part_among(lot, lots):
    """Whether one of the lots has no index that the lot lacks."""
    return any([all([index in lot for index in other]) for other in lots])


def least_lifted(floor, t, goal):
    board = need_goal(floor, t, goal)
    least = []
    for many in range(len(board.shapes) + 1):
        for lot in combinations(range(len(board.shapes)), many):
            # More shapes lifted leave all that was reached.
            if not has_part_among(lot, least) and goal in trails_from(board, t, lot):
                least.append(lot)
    return least


def way_paper(floor, t, goal):
    board = need_goal(floor, t, goal)
    hits = board.hits(t)
    if hits:
        return ("hit", hits[0])
    trails = trails_from(board, t, ())
    row = row_along(trails, goal)
    if row is None:
        return ("shut", tuple(sorted(list(trails))))
    return ("row", row)


def is_lot(board, value):
    """Whether any value is a list or tuple of unlike shifts."""
    if not isinstance(value, (list, tuple)) or not all([is_place(board.box, shift) for shift in value]):
        return False
    return are_unlike(value)


def is_right_row(board, t, goal, row):
    return is_walk(board.moves, row) and row_end(board, t, row) == goal


def is_right_shut(board, t, goal, lot):
    if board.hits(t) or not is_lot(board, lot) or t not in lot or goal in lot:
        return False
    return do_lead_into(board, lot, lot)


def accepts_way(floor, t, goal, value):
    board = need_goal(floor, t, goal)
    if has_word(value, "row", 2):
        return is_right_row(board, t, goal, value[1])
    if has_word(value, "hit", 2):
        return is_index(value[1], board.shapes) and value[1] in board.hits(t)
    return has_word(value, "shut", 2) and is_right_shut(board, t, goal, value[1])


def least_paper(floor, t, goal):
    board = need_goal(floor, t, goal)
    trails = trails_from(board, t, ())
    row = row_along(trails, goal)
    if row is None:
        return None
    lots = []
    for most in range(len(row)):
        lots.append(tuple(sorted([shift for shift in trails if trails[shift][0] <= most])))
    return ("least", row, tuple(lots))


def are_right_lots(board, t, goal, lots):
    """Whether lots of shifts, one for each move of a row, show that no row with fewer moves leads to the goal."""
    if not all([is_lot(board, lot) and goal not in lot for lot in lots]):
        return False
    if lots and t not in lots[0]:
        return False
    return all([do_lead_into(board, lot, behind) for lot, behind in zip(lots, lots[1:])])


def accepts_least(floor, t, goal, value):
    board = need_goal(floor, t, goal)
    if not has_word(value, "least", 3):
        return False
    _, row, lots = value
    if not is_right_row(board, t, goal, row) or not isinstance(lots, (list, tuple)) or len(lots) != len(row):
        return False
    return are_right_lots(board, t, goal, lots)
