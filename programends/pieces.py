"""Programs, the pieces they are made of, and how they are read."""

from programends.deeds import Deed, read_deed, read_field, read_value
from programends.reader import NotWhole, Reader

DEED = 0
LOOP = 1
LOOP_TO_END = 2
PART = 3

MOST_ROUNDS = 9
MOST_PIECES = 16
MOST_DEPTH = 3


class Loop:
    """A loop of so many rounds of a row of pieces."""

    def __init__(self, rounds):
        self.rounds = rounds
        self.row = []


class LoopToEnd:
    """A loop to the end of a row of pieces."""

    def __init__(self):
        self.row = []


class Part:
    """A row of pieces that is done when a field of the row here has a value."""

    def __init__(self, field, value):
        self.field = field
        self.value = value
        self.row = []


class Program:
    """A program: as numbers, as a row, and all its pieces by their numbers."""

    def __init__(self, numbers, row, pieces):
        self.numbers = numbers
        self.row = row
        self.pieces = pieces


def read_program(numbers):
    """Read a list that must be whole a program."""
    reader = Reader(numbers)
    pieces = []
    row = read_row(reader, pieces, 0)
    reader.finish()
    return Program(list(numbers), row, pieces)


def numbers_joined(first, second):
    """Give the numbers of a program's pieces behind another's; they may be too many for one."""
    count = first.numbers[0] + second.numbers[0]
    return [count] + first.numbers[1:] + second.numbers[1:]


def read_row(reader, pieces, depth):
    """Read a row that lies within so many loops and parts."""
    if depth > MOST_DEPTH:
        raise NotWhole()
    count = reader.take_within(0, MOST_PIECES)
    row = []
    for place in range(count):
        row.append(read_piece(reader, pieces, depth))
    return row


def read_piece(reader, pieces, depth):
    """Read a piece with all within it, and put them behind the pieces read so far."""
    if len(pieces) == MOST_PIECES:
        raise NotWhole()
    piece = read_head(reader)
    # A loop or a part is numbered ahead of the pieces within it.
    pieces.append(piece)
    if not isinstance(piece, Deed):
        piece.row = read_row(reader, pieces, depth + 1)
    return piece


def read_head(reader):
    """Read a piece without the row that it may have."""
    kind = reader.take_within(DEED, PART)
    if kind == DEED:
        return read_stepped_deed(reader)
    if kind == LOOP:
        return Loop(reader.take_within(1, MOST_ROUNDS))
    if kind == LOOP_TO_END:
        return LoopToEnd()
    field = read_field(reader)
    value = read_value(reader)
    return Part(field, value)


def read_stepped_deed(reader):
    """Read a deed and the step behind it, if it has a number."""
    deed = read_deed(reader)
    if deed.has_value():
        deed.step = read_value(reader)
    return deed


def depth_of(row):
    """Tell how deep loops and parts are within one another."""
    deepest = 0
    for piece in row:
        if not isinstance(piece, Deed):
            deepest = max(deepest, 1 + depth_of(piece.row))
    return deepest
