"""Tables, and how they are read and told."""

from programends.deeds import FIELDS, read_value
from programends.reader import Reader

MOST_ROWS = 8


class Table:
    """A table: its rows, the place of its cursor, and its clipboard."""

    def __init__(self, rows, cursor, clipboard):
        self.rows = rows
        self.cursor = cursor
        self.clipboard = clipboard

    def has_row_here(self):
        """Tell whether there's a row here; else the cursor is behind the last one."""
        return self.cursor < len(self.rows)

    def copied(self):
        """Give a new table that is the same."""
        return Table([list(row) for row in self.rows], self.cursor, self.clipboard)

    def as_numbers(self):
        """Give the table as numbers."""
        numbers = [len(self.rows)]
        for row in self.rows:
            numbers.extend(row)
        return numbers + [self.cursor, self.clipboard]


def read_table(numbers):
    """Read a list that must be whole a table."""
    reader = Reader(numbers)
    count = reader.take_within(0, MOST_ROWS)
    rows = []
    for place in range(count):
        rows.append([read_value(reader) for field in range(FIELDS)])
    cursor = reader.take_within(0, count)
    clipboard = read_value(reader)
    reader.finish()
    return Table(rows, cursor, clipboard)


def places_changed(before, behind):
    """Tell the row and the field of each place with another value; both tables have as many rows."""
    places = []
    for place, row in enumerate(before.rows):
        for field, value in enumerate(row):
            if behind.rows[place][field] != value:
                places.append((place, field))
    return places
