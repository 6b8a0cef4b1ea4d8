"""The interface: a line of calls goes in, their answers come out."""

from programends.desk import Desk
from programends.reader import Reader

PROGRAM = 0
TOLD = 1
TOUCHES = 2
ENDS = 3
ALLOWED = 4
RUN = 5
CHANGED = 6
JOIN = 7
CLEAN = 8
SAME = 9


def answers(calls):
    """Answer the calls on one new object: for each, how many numbers, and they."""
    desk = Desk()
    line = Reader(calls)
    given = []
    while not line.at_end():
        answer = answer_call(desk, line)
        given.append(len(answer))
        given.extend(answer)
    return given


def answer_call(desk, line):
    """Read one call from the line, and answer it."""
    call = line.take()
    if call == PROGRAM:
        return desk.put_program(line.take_list())
    if call == TOLD:
        return desk.told()
    if call == TOUCHES:
        return desk.touches()
    if call == ENDS:
        return desk.ends()
    if call == ALLOWED:
        rows = line.take()
        return desk.allowed(rows, line.take_list())
    if call == RUN:
        return desk.run_on(line.take_list())
    if call == CHANGED:
        return desk.changed_on(line.take_list())
    if call == JOIN:
        return desk.join_program(line.take_list())
    if call == CLEAN:
        return desk.clean(line.take_list())
    if call == SAME:
        recorded = line.take_list()
        return desk.same(recorded, line.take_list())
    raise ValueError()
