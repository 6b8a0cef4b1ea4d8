"""The one object that the calls are made on."""

from programends.nearer import first_endless, most_deeds
from programends.pieces import depth_of, read_program
from programends.reader import NotWhole
from programends.touched import (
    fields_read,
    fields_written,
    is_against,
    read_fields,
    reads_old_clipboard,
    rows_may_change,
)


class Desk:
    """Holds one program, and answers each call with a new list of numbers."""

    def __init__(self):
        self.program = read_program([0])

    def put_program(self, numbers):
        """Answer the call program."""
        try:
            program = read_program(numbers)
        except NotWhole:
            return [-1]
        self.program = program
        return [len(program.pieces), depth_of(program.row)]

    def told(self):
        """Answer the call told."""
        return list(self.program.numbers)

    def touches(self):
        """Answer the call touches."""
        program = self.program
        written = fields_written(program.pieces)
        read = fields_read(program.pieces)
        rows = 1 if rows_may_change(program.pieces) else 0
        clipboard = 1 if reads_old_clipboard(program.row, False) else 0
        return [len(written)] + written + [len(read)] + read + [rows, clipboard]

    def ends(self):
        """Answer the call ends."""
        endless = first_endless(self.program.pieces)
        if endless is None:
            return [1, most_deeds(self.program.row)]
        return [0, endless]

    def allowed(self, rows, numbers):
        """Answer the call allowed."""
        if rows not in (0, 1):
            return [-1]
        try:
            fields = read_fields(numbers)
        except NotWhole:
            return [-1]
        for number, piece in enumerate(self.program.pieces):
            if is_against(piece, rows, fields):
                return [0, number]
        return [1]
