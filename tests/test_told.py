"""The call told."""

import unittest

from helper import DELETE, DOWN, ENDS, HUGE, TOLD, TOP, TOUCHES, UP, add, allowed, ask, copy, find, loop, part
from helper import paste, program, row, to_end, write


class Told(unittest.TestCase):
    MANY = row(
        write(2, -999, 999), add(1, 999, -999), copy(2), paste(1), DELETE,
        loop(9, to_end(part(find(0, -1, 1), field=2, value=-999), UP), DOWN), part(), TOP,
    )

    def test_new_object(self):
        self.assertEqual(ask(TOLD), [[0]])
        self.assertEqual(ask(TOLD, TOLD), [[0], [0]])

    def test_behind_a_program_that_was_taken(self):
        for numbers in ([0], row(DOWN), self.MANY, row(*[write(0, 0, 0)] * 16)):
            self.assertEqual(ask(program(numbers), TOLD)[1], numbers)

    def test_the_last_program_taken_holds(self):
        self.assertEqual(
            ask(program(self.MANY), program(row(DOWN)), TOLD, program([0]), TOLD, program(self.MANY), TOLD)[2::2],
            [row(DOWN), [0], self.MANY],
        )

    def test_behind_one_that_was_refused(self):
        for wrong in ([], [1], self.MANY + [0], self.MANY[:-1], [HUGE], [-HUGE]):
            self.assertEqual(ask(program(wrong), TOLD), [[-1], [0]])
            self.assertEqual(ask(program(self.MANY), program(wrong), TOLD)[1:], [[-1], self.MANY])

    def test_other_calls_leave_the_program(self):
        line = [program(self.MANY), TOUCHES, ENDS, allowed(0, 0), allowed(1, 3, 0, 1, 2), allowed(2, 0), TOLD]
        self.assertEqual(ask(*line)[-1], self.MANY)


if __name__ == "__main__":
    unittest.main()
