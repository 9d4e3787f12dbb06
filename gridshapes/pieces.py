"""Pieces of simple shapes: whether they part one, and into which ones it is parted."""

from gridshapes.errors import NoMenu, NoPiece
from gridshapes.numbers import is_number, is_number_pair, is_row
from gridshapes.partings import (
    all_diagonals, beginnings_by, do_cross, ears_by, fewest_by, flaw_by, pieces_parted, triangles_by)
from gridshapes.simples import is_simple, need_simple

PIECES_MOST = 20


def need_pieces(pieces):
    if not is_row(pieces, 1, PIECES_MOST):
        raise NoPiece(None)
    for index, piece in enumerate(pieces):
        if not is_simple(piece):
            raise NoPiece(index)


def first_flaw(simple, pieces):
    need_simple(simple)
    need_pieces(pieces)
    return flaw_by(simple, pieces)


def are_parting(simple, pieces):
    return first_flaw(simple, pieces) is None


def accepts_flaw(simple, pieces, value):
    need_simple(simple)
    need_pieces(pieces)
    if not isinstance(value, tuple) or len(value) != 3:
        return False
    u, point, number = value
    if not is_number_pair(u) or not is_number_pair(point) or not is_number(number):
        return False
    return beginnings_by(simple, pieces).get((u, point)) == number


def ears_of(simple):
    need_simple(simple)
    return ears_by(simple)


def told_triangles(simple):
    need_simple(simple)
    return triangles_by(simple)


def diagonals_of(simple):
    need_simple(simple)
    return all_diagonals(simple)


def need_diagonals(simple, diagonals):
    if not isinstance(diagonals, (list, tuple)):
        raise NoMenu(None)
    known = all_diagonals(simple)
    ahead = []
    for index, diagonal in enumerate(diagonals):
        if not is_number_pair(diagonal) or diagonal not in known or diagonal in ahead:
            raise NoMenu(index)
        if any([do_cross(diagonal, other) for other in ahead]):
            raise NoMenu(index)
        ahead.append(diagonal)


def pieces_by(simple, diagonals):
    need_simple(simple)
    need_diagonals(simple, diagonals)
    return pieces_parted(simple, diagonals)


def fewest_round(simple):
    need_simple(simple)
    return fewest_by(simple)
