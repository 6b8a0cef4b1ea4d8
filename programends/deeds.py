"""The deeds that a program is made of."""

DOWN = 0
UP = 1
TOP = 2
WRITE = 3
ADD = 4
COPY = 5
PASTE = 6
DELETE = 7
DOUBLE = 8
FIND = 9

FIELDS = 3
FARTHEST_VALUE = 999


class Deed:
    """One deed; what its kind doesn't have (field, value, step) is 0."""

    def __init__(self, kind):
        self.kind = kind
        self.field = 0
        self.value = 0
        self.step = 0

    def has_field(self):
        return self.kind in (WRITE, ADD, COPY, PASTE, FIND)

    def has_value(self):
        return self.kind in (WRITE, ADD, FIND)

    def writes_field(self):
        return self.kind in (WRITE, ADD, PASTE)

    def reads_field(self):
        return self.kind in (ADD, COPY, FIND)

    def changes_rows(self):
        return self.kind in (DELETE, DOUBLE)


def read_field(reader):
    """Read the number of a field."""
    return reader.take_within(0, FIELDS - 1)


def read_value(reader):
    """Read a value of a field, or a step."""
    return reader.take_within(-FARTHEST_VALUE, FARTHEST_VALUE)


def read_deed(reader):
    """Read a deed; its step is not told with it."""
    deed = Deed(reader.take_within(DOWN, FIND))
    if deed.has_field():
        deed.field = read_field(reader)
    if deed.has_value():
        deed.value = read_value(reader)
    return deed


def deed_numbers(deed):
    """Give the deed as numbers, without its step."""
    numbers = [deed.kind]
    if deed.has_field():
        numbers.append(deed.field)
    if deed.has_value():
        numbers.append(deed.value)
    return numbers
