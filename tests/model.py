"""What the document says of runs and recordings, once more and in another way, to compare with.

Programs are nested tuples here, tables are never changed but made anew:
(rows, cursor, clipboard). A program is a tuple of
("deed", kind, field, value, step), ("loop", rounds, pieces),
("to_end", pieces) and ("part", field, value, pieces).
"""

WITH_VALUE = (3, 4, 9)
WITH_FIELD = (3, 4, 5, 6, 9)


class Ended(Exception):
    def __init__(self, how):
        super().__init__(how)
        self.how = how


def need(so, fault):
    if not so:
        raise Ended(fault)


def in_range(value):
    return abs(value) <= 999


def after(state, kind, field, value):
    """The table behind a deed."""
    rows, cursor, clipboard = state
    head, here, tail = rows[:cursor], rows[cursor:cursor + 1], rows[cursor + 1:]

    def with_field(new):
        changed = tuple(new if place == field else old for place, old in enumerate(here[0]))
        return head + (changed,) + tail, cursor, clipboard

    if kind == 1:
        need(cursor > 0, 2)
        return rows, cursor - 1, clipboard
    if kind == 2:
        return rows, 0, clipboard
    if kind == 9:
        below = [place for place, row in enumerate(rows) if place > cursor and row[field] == value]
        need(below, 5)
        return rows, below[0], clipboard
    need(here, 1)
    if kind == 0:
        return rows, cursor + 1, clipboard
    if kind == 3:
        need(in_range(value), 3)
        return with_field(value)
    if kind == 4:
        need(in_range(here[0][field] + value), 3)
        return with_field(here[0][field] + value)
    if kind == 5:
        return rows, cursor, here[0][field]
    if kind == 6:
        return with_field(clipboard)
    if kind == 7:
        return head + tail, cursor, clipboard
    need(len(rows) < 8, 4)
    return head + here + here + tail, cursor, clipboard


def behind(state):
    return state[1] == len(state[0])


class Walk:
    """A run that keeps the table behind each deed."""

    def __init__(self, state):
        self.states = [state]

    def now(self):
        return self.states[-1]

    def row(self, pieces, number):
        for piece in pieces:
            getattr(self, piece[0])(number, *piece[1:])

    def deed(self, number, kind, field, value, step):
        need(len(self.states) <= 60, 6)
        self.states.append(after(self.now(), kind, field, value + number * step))

    def loop(self, outer, rounds, pieces):
        for number in range(rounds):
            self.row(pieces, number)

    def to_end(self, outer, pieces):
        number = 0
        while not behind(self.now()):
            need(number < 60, 6)
            self.row(pieces, number)
            number += 1

    def part(self, number, field, value, pieces):
        rows, cursor, clipboard = self.now()
        if cursor < len(rows) and rows[cursor][field] == value:
            self.row(pieces, number)


def run_model(pieces, state):
    """How many deeds were done, how the run ended, the table then."""
    walk = Walk(state)
    how = 0
    try:
        walk.row(pieces, 0)
    except Ended as ended:
        how = ended.how
    return len(walk.states) - 1, how, walk.now()


def clean_model(deeds):
    """Cleaned with what's left so far on a pile; a deed is ("deed", kind, field, value, 0)."""
    pile = []
    for deed in deeds:
        ahead = [deed]
        while ahead and pile:
            fewer = become(pile[-1], ahead[0])
            if fewer is None:
                break
            pile.pop()
            ahead = fewer
        pile += ahead
    return pile


def become(one, other):
    name = "dutwacpxbf"
    pair = name[one[1]] + name[other[1]]
    if pair in ("du", "ud", "bx"):
        return []
    if pair in ("dt", "ut", "ft", "tt", "cc"):
        return [other]
    if one[2] != other[2]:
        return None
    if pair in ("ww", "aw", "pw", "wp", "ap", "pp"):
        return [other]
    if pair in ("aa", "wa"):
        value = one[3] + other[3]
        return [] if pair == "aa" and value == 0 else [("deed", one[1], one[2], value, 0)]
    return None


def deed_numbers(deed, stepped):
    kind, field, value, step = deed[1:]
    numbers = [kind]
    if kind in WITH_FIELD:
        numbers.append(field)
    if kind in WITH_VALUE:
        numbers += [value, step] if stepped else [value]
    return numbers


def program_numbers(pieces):
    numbers = [len(pieces)]
    for piece in pieces:
        if piece[0] == "deed":
            numbers += [0] + deed_numbers(piece, True)
        else:
            head = {"loop": 1, "to_end": 2, "part": 3}[piece[0]]
            numbers += [head, *piece[1:-1]] + program_numbers(piece[-1])
    return numbers


def recording_numbers(deeds):
    return [len(deeds)] + [number for deed in deeds for number in deed_numbers(deed, False)]


def table_numbers(state):
    rows, cursor, clipboard = state
    return [len(rows)] + [value for row in rows for value in row] + [cursor, clipboard]
