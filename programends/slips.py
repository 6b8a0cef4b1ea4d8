"""Recordings, and how the slips are taken out of them."""

from programends.deeds import (
    ADD,
    COPY,
    DELETE,
    DOUBLE,
    DOWN,
    FIND,
    PASTE,
    TOP,
    UP,
    WRITE,
    Deed,
    deed_numbers,
    read_deed,
)
from programends.reader import Reader

MOST_RECORDED = 20


def read_recording(numbers):
    """Read a list that must be whole how many deeds, and they."""
    reader = Reader(numbers)
    count = reader.take_within(0, MOST_RECORDED)
    deeds = []
    for place in range(count):
        deeds.append(read_deed(reader))
    reader.finish()
    return deeds


def recording_numbers(deeds):
    """Give how many deeds, and they."""
    numbers = [len(deeds)]
    for deed in deeds:
        numbers.extend(deed_numbers(deed))
    return numbers


def cleaned(deeds):
    """Give a new recording without the slips of this one."""
    shorter = without_first_slip(deeds)
    while shorter is not None:
        deeds = shorter
        shorter = without_first_slip(deeds)
    return list(deeds)


def without_first_slip(deeds):
    """Give a new recording where the first two neighbours that become fewer did so; None if no two do."""
    for place in range(len(deeds) - 1):
        fewer = become(deeds[place], deeds[place + 1])
        if fewer is not None:
            return deeds[:place] + fewer + deeds[place + 2:]
    return None


def become(first, second):
    """Give the fewer deeds that two neighbours become; None if they stay."""
    pair = (first.kind, second.kind)
    if pair in ((DOWN, UP), (UP, DOWN), (DOUBLE, DELETE)):
        return []
    if pair in ((DOWN, TOP), (UP, TOP), (FIND, TOP), (TOP, TOP), (COPY, COPY)):
        return [second]
    if first.writes_field() and second.writes_field() and first.field == second.field:
        return become_of_one_field(first, second)
    return None


def become_of_one_field(first, second):
    """Give what two neighbours become that write, add to or paste into the same field; None if they stay."""
    if second.kind in (WRITE, PASTE):
        return [second]
    # What is added to a pasted value isn't known from the recording.
    if first.kind == PASTE:
        return None
    together = first.value + second.value
    if first.kind == ADD and together == 0:
        return []
    return [deed_with(first.kind, first.field, together)]


def deed_with(kind, field, value):
    """Give a new deed of this kind with a field and a value."""
    deed = Deed(kind)
    deed.field = field
    deed.value = value
    return deed
