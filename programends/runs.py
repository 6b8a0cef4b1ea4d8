"""Running a row of pieces on a table."""

from programends.deeds import Deed
from programends.doing import WELL, do_deed
from programends.pieces import Loop, LoopToEnd

TOO_LONG = 6

MOST_DEEDS_DONE = 60
MOST_ROUNDS_TO_END = 60


class Run:
    """A run: the table that it changes, how many deeds it did, and how it ended."""

    def __init__(self, table):
        self.table = table
        self.done = 0
        self.ended = WELL

    def do_row(self, row, number):
        """Do the pieces of the row in the round of this number, and tell how that ended."""
        for piece in row:
            ended = self.do_piece(piece, number)
            if ended != WELL:
                return ended
        return WELL

    def do_piece(self, piece, number):
        """Do a piece in the round of this number, and tell how that ended."""
        if isinstance(piece, Deed):
            return self.do_counted(piece, number)
        if isinstance(piece, Loop):
            return self.do_rounds(piece)
        if isinstance(piece, LoopToEnd):
            return self.do_to_end(piece)
        if self.is_called_for(piece):
            # A part has no rounds of its own.
            return self.do_row(piece.row, number)
        return WELL

    def do_counted(self, deed, number):
        """Do a deed with its step, unless so many are done already."""
        # This is looked at ahead of the deed's fault.
        if self.done == MOST_DEEDS_DONE:
            return TOO_LONG
        ended = do_deed(self.table, deed, deed.value + deed.step * number)
        if ended == WELL:
            self.done = self.done + 1
        return ended

    def do_rounds(self, loop):
        """Do a loop of so many rounds."""
        for number in range(loop.rounds):
            ended = self.do_row(loop.row, number)
            if ended != WELL:
                return ended
        return WELL

    def do_to_end(self, loop):
        """Do a loop to the end."""
        for number in range(MOST_ROUNDS_TO_END):
            if not self.table.has_row_here():
                return WELL
            ended = self.do_row(loop.row, number)
            if ended != WELL:
                return ended
        return TOO_LONG if self.table.has_row_here() else WELL

    def is_called_for(self, part):
        """Tell whether a part's field of the row here has the part's value."""
        table = self.table
        return table.has_row_here() and table.rows[table.cursor][part.field] == part.value


def run_row(row, table):
    """Run the row on a table like this one, which stays as it is."""
    run = Run(table.copied())
    run.ended = run.do_row(row, 0)
    return run
