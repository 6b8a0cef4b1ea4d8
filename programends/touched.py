"""What a program may write and read."""

from programends.deeds import COPY, FIELDS, PASTE, Deed, read_field
from programends.pieces import Loop, Part
from programends.reader import Reader


def fields_written(pieces):
    """Tell the fields that these pieces may write, rising."""
    return rising([piece.field for piece in pieces if isinstance(piece, Deed) and piece.writes_field()])


def fields_read(pieces):
    """Tell the fields that these pieces may read, rising."""
    return rising([piece.field for piece in pieces if piece_reads(piece)])


def piece_reads(piece):
    """Tell whether this piece by itself reads a field."""
    if isinstance(piece, Deed):
        return piece.reads_field()
    return isinstance(piece, Part)


def rising(fields):
    """Tell each of the fields once, in rising order."""
    return [field for field in range(FIELDS) if field in fields]


def rows_may_change(pieces):
    """Tell whether rows may go or come."""
    return any([isinstance(piece, Deed) and piece.changes_rows() for piece in pieces])


def reads_old_clipboard(row, copied):
    """Tell whether a paste in the row may come ahead of every copy.

    copied tells whether a copy surely comes ahead of the row.
    """
    for piece in row:
        if isinstance(piece, Deed):
            if piece.kind == PASTE and not copied:
                return True
        elif reads_old_clipboard(piece.row, copied):
            return True
        copied = copied or surely_copies(piece)
    return False


def surely_copies(piece):
    """Tell whether a copy surely comes within the piece, ahead of what's behind it."""
    if isinstance(piece, Deed):
        return piece.kind == COPY
    # A loop to the end may have no round, and a part may be passed over.
    if isinstance(piece, Loop):
        return any([surely_copies(inner) for inner in piece.row])
    return False


def read_fields(numbers):
    """Read a list that must be whole how many fields, and they."""
    reader = Reader(numbers)
    count = reader.take_within(0, FIELDS)
    fields = []
    for place in range(count):
        fields.append(read_field(reader))
    reader.finish()
    return fields


def is_against(piece, rows, fields):
    """Tell whether this piece by itself writes another field, or changes rows that may not change."""
    if not isinstance(piece, Deed):
        return False
    if piece.changes_rows():
        return rows == 0
    return piece.writes_field() and piece.field not in fields
