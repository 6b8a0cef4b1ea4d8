"""Calls and programs written short, and their answers taken apart."""

from programends.gate import answers

HUGE = 10 ** 18

TOLD = [1]
TOUCHES = [2]
ENDS = [3]


def program(numbers):
    return [0, len(numbers), *numbers]


def allowed(rows, *fields):
    return [4, rows, len(fields), *fields]


def run(numbers):
    return [5, len(numbers), *numbers]


def changed(numbers):
    return [6, len(numbers), *numbers]


def join(numbers):
    return [7, len(numbers), *numbers]


def clean(numbers):
    return [8, len(numbers), *numbers]


def same(numbers, more):
    return [9, len(numbers), *numbers, len(more), *more]


def table(*rows, cursor=0, clipboard=0):
    """A table as numbers; a row is its three values."""
    return [len(rows)] + [value for one in rows for value in one] + [cursor, clipboard]


def ask(*calls):
    """The answers to the calls on one object, a list for each."""
    line = [number for call in calls for number in call]
    before = list(line)
    given = answers(line)
    assert line == before, "the list handed in was changed"
    assert isinstance(given, list) and given is not line
    assert all(type(number) is int for number in given), given
    split = []
    place = 0
    while place < len(given):
        count = given[place]
        assert count >= 0 and place + 1 + count <= len(given), given
        split.append(given[place + 1:place + 1 + count])
        place += 1 + count
    assert len(split) == len(calls), given
    return split


def ask_of(numbers, *calls):
    """The answers to the calls on an object that has taken this program."""
    first, *others = ask(program(numbers), *calls)
    assert first[0] >= 0, "the program was refused: %r" % (numbers,)
    return others


# Pieces and programs: each is a list of numbers.

def deed(number, *more):
    return [0, number, *more]


DOWN = deed(0)
UP = deed(1)
TOP = deed(2)
DELETE = deed(7)
DOUBLE = deed(8)


def write(field, value=5, step=0):
    return deed(3, field, value, step)


def add(field, value=5, step=0):
    return deed(4, field, value, step)


def copy(field=0):
    return deed(5, field)


def paste(field=0):
    return deed(6, field)


def find(field=0, value=5, step=0):
    return deed(9, field, value, step)


def row(*pieces):
    """A row of pieces; a program is one."""
    return [len(pieces)] + [number for piece in pieces for number in piece]


def loop(rounds, *pieces):
    return [1, rounds] + row(*pieces)


def to_end(*pieces):
    return [2] + row(*pieces)


def part(*pieces, field=0, value=1):
    return [3, field, value] + row(*pieces)


def recording(*pieces):
    """Deeds in a row: the same pieces, each without the 0 ahead of it and the step that it may have."""
    deeds = []
    for piece in pieces:
        assert piece[0] == 0, "only deeds are recorded"
        deeds.append(piece[1:4] if piece[1] in (3, 4, 9) else piece[1:])
    return row(*deeds)
