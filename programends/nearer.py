"""Whether a program surely ends, and how many deeds it does at most."""

from programends.deeds import DELETE, DOUBLE, DOWN, FIND, TOP, UP, Deed
from programends.pieces import Loop, LoopToEnd

ROUNDS_TO_END = 8
MOST_ACCEPTED = 60


def rest_behind_row(row):
    """Tell by how much the rest is greater behind the row at most; None if it can't be told."""
    total = 0
    for piece in row:
        greater = rest_behind_piece(piece)
        if greater is None:
            return None
        total = total + greater
    return total


def rest_behind_piece(piece):
    """Tell by how much the rest is greater behind the piece at most; None if it can't be told."""
    if isinstance(piece, Deed):
        return rest_behind_deed(piece)
    if isinstance(piece, LoopToEnd):
        return 0
    greater = rest_behind_row(piece.row)
    if greater is None:
        return None
    if isinstance(piece, Loop):
        return piece.rounds * greater
    # A part may be passed over, and then the rest is no smaller.
    return max(0, greater)


def rest_behind_deed(deed):
    """Tell by how much the rest is greater behind the deed at most; None if it can't be told."""
    if deed.kind == TOP:
        return None
    if deed.kind in (DOWN, DELETE, FIND):
        return -1
    if deed.kind in (UP, DOUBLE):
        return 1
    return 0


def comes_nearer(loop):
    """Tell whether a loop to the end comes nearer to the end with each round."""
    greater = rest_behind_row(loop.row)
    return greater is not None and greater <= -1


def first_endless(pieces):
    """Tell the number of the first loop to the end that doesn't come nearer; None if there is none."""
    for number, piece in enumerate(pieces):
        if isinstance(piece, LoopToEnd) and not comes_nearer(piece):
            return number
    return None


def most_deeds(row):
    """Tell how many deeds the row does at most."""
    return sum([most_deeds_of_piece(piece) for piece in row])


def most_deeds_of_piece(piece):
    """Tell how many deeds the piece does at most."""
    if isinstance(piece, Deed):
        return 1
    once = most_deeds(piece.row)
    if isinstance(piece, Loop):
        return piece.rounds * once
    if isinstance(piece, LoopToEnd):
        return ROUNDS_TO_END * once
    return once


def is_accepted(program):
    """Tell whether the program surely ends, and does no more deeds than are accepted."""
    return first_endless(program.pieces) is None and most_deeds(program.row) <= MOST_ACCEPTED
