"""Doing one deed on a table."""

from programends.deeds import ADD, COPY, DELETE, DOUBLE, DOWN, FARTHEST_VALUE, FIND, PASTE, TOP, UP, WRITE
from programends.tables import MOST_ROWS

WELL = 0
NO_ROW_HERE = 1
AT_FIRST_ROW = 2
VALUE_BEYOND = 3
NO_ROOM = 4
NONE_FOUND = 5


def do_deed(table, deed, value):
    """Do the deed with this value, and tell how that ended; at a fault the table stays."""
    if deed.kind == UP:
        return go_up(table)
    if deed.kind == TOP:
        table.cursor = 0
        return WELL
    if deed.kind == FIND:
        return find_below(table, deed.field, value)
    # All other deeds have this as the first of their reasons.
    if not table.has_row_here():
        return NO_ROW_HERE
    if deed.kind in (WRITE, ADD, COPY, PASTE):
        return do_with_field(table, deed, value)
    return do_with_row(table, deed)


def go_up(table):
    """Move the cursor to the row before."""
    if table.cursor == 0:
        return AT_FIRST_ROW
    table.cursor = table.cursor - 1
    return WELL


def find_below(table, field, value):
    """Move the cursor to the next row further down whose field has this value."""
    for place in range(table.cursor + 1, len(table.rows)):
        if table.rows[place][field] == value:
            table.cursor = place
            return WELL
    return NONE_FOUND


def do_with_field(table, deed, value):
    """Do a deed with a field of the row here."""
    here = table.rows[table.cursor]
    if deed.kind == WRITE:
        return put_value(here, deed.field, value)
    if deed.kind == ADD:
        return put_value(here, deed.field, here[deed.field] + value)
    if deed.kind == COPY:
        table.clipboard = here[deed.field]
    else:
        here[deed.field] = table.clipboard
    return WELL


def put_value(row, field, value):
    """Put this value into a field of the row."""
    if value < -FARTHEST_VALUE or value > FARTHEST_VALUE:
        return VALUE_BEYOND
    row[field] = value
    return WELL


def do_with_row(table, deed):
    """Do down, delete or double with the row here."""
    if deed.kind == DOWN:
        table.cursor = table.cursor + 1
    elif deed.kind == DELETE:
        table.rows.pop(table.cursor)
    elif deed.kind == DOUBLE:
        if len(table.rows) == MOST_ROWS:
            return NO_ROOM
        table.rows.insert(table.cursor + 1, list(table.rows[table.cursor]))
    return WELL
