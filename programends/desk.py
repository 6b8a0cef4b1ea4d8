"""The one object that the calls are made on."""

from programends.nearer import first_endless, is_accepted, most_deeds
from programends.pieces import depth_of, numbers_joined, read_program
from programends.reader import NotWhole
from programends.runs import run_row
from programends.slips import cleaned, read_recording, recording_numbers
from programends.tables import places_changed, read_table
from programends.touched import (
    fields_read,
    fields_written,
    is_against,
    read_fields,
    reads_old_clipboard,
    rows_may_change,
)


class Desk:
    """Holds one program, and answers each call with a new list of numbers."""

    def __init__(self):
        self.program = read_program([0])

    def put_program(self, numbers):
        """Answer the call program."""
        try:
            program = read_program(numbers)
        except NotWhole:
            return [-1]
        self.program = program
        return [len(program.pieces), depth_of(program.row)]

    def told(self):
        """Answer the call told."""
        return list(self.program.numbers)

    def touches(self):
        """Answer the call touches."""
        program = self.program
        written = fields_written(program.pieces)
        read = fields_read(program.pieces)
        rows = 1 if rows_may_change(program.pieces) else 0
        clipboard = 1 if reads_old_clipboard(program.row, False) else 0
        return [len(written)] + written + [len(read)] + read + [rows, clipboard]

    def ends(self):
        """Answer the call ends."""
        endless = first_endless(self.program.pieces)
        if endless is None:
            return [1, most_deeds(self.program.row)]
        return [0, endless]

    def allowed(self, rows, numbers):
        """Answer the call allowed."""
        if rows not in (0, 1):
            return [-1]
        try:
            fields = read_fields(numbers)
        except NotWhole:
            return [-1]
        for number, piece in enumerate(self.program.pieces):
            if is_against(piece, rows, fields):
                return [0, number]
        return [1]

    def run_on(self, numbers):
        """Answer the call run."""
        try:
            table = read_table(numbers)
        except NotWhole:
            return [-1]
        run = run_row(self.program.row, table)
        return [run.done, run.ended] + run.table.as_numbers()

    def changed_on(self, numbers):
        """Answer the call changed."""
        try:
            before = read_table(numbers)
        except NotWhole:
            return [-1]
        behind = run_row(self.program.row, before).table
        if len(behind.rows) != len(before.rows):
            return [-4]
        places = places_changed(before, behind)
        answer = [len(places)]
        for place, field in places:
            answer.extend([place, field])
        return answer

    def join_program(self, numbers):
        """Answer the call join."""
        try:
            added = read_program(numbers)
        except NotWhole:
            return [-1]
        try:
            joined = read_program(numbers_joined(self.program, added))
        except NotWhole:
            return [-6]
        self.program = joined
        return [len(joined.pieces), 1 if is_accepted(joined) else 0]

    def clean(self, numbers):
        """Answer the call clean."""
        try:
            deeds = read_recording(numbers)
        except NotWhole:
            return [-1]
        fewer = cleaned(deeds)
        return [len(deeds) - len(fewer)] + recording_numbers(fewer)

    def same(self, recorded, numbers):
        """Answer the call same."""
        try:
            deeds = read_recording(recorded)
            table = read_table(numbers)
        except NotWhole:
            return [-1]
        first = run_row(deeds, table)
        second = run_row(cleaned(deeds), table)
        alike = first.table.as_numbers() == second.table.as_numbers()
        return [first.ended, second.ended, 1 if alike else 0]
