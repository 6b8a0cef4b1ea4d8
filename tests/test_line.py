"""A line of calls: the document's example, and calls one behind another."""

import unittest

from programends.gate import answers

from helper import DOWN, ENDS, HUGE, TOLD, TOUCHES, UP, allowed, ask, copy, loop, part, paste, program, row, to_end
from helper import write

FIRST = [1, 2, 2, 0, 3, 0, 7, 1, 0, 0]
JOINED = [2, 2, 2, 0, 3, 0, 7, 1, 0, 0, 2, 1, 0, 1]
CLIPBOARD = [2, 3, 0, 1, 1, 0, 5, 2, 0, 6, 1]


class Example(unittest.TestCase):
    def test_first_program(self):
        self.assertEqual(
            ask(program(FIRST), TOUCHES, ENDS, allowed(0, 1, 0), allowed(0, 1, 1), allowed(2, 0)),
            [[3, 1], [1, 0, 0, 0, 0], [1, 16], [1], [0, 1], [-1]],
        )

    def test_what_the_join_makes(self):
        self.assertEqual(
            ask(program(JOINED), ENDS, TOLD, allowed(2, 0)),
            [[5, 1], [0, 3], JOINED, [-1]],
        )

    def test_clipboard_program(self):
        self.assertEqual(ask(program(CLIPBOARD), TOUCHES), [[3, 1], [1, 1, 2, 0, 2, 0, 1]])

    def test_form_of_the_answers(self):
        line = [0, 10, *FIRST, 2, 3, 4, 0, 2, 1, 0, 4, 0, 2, 1, 1, 4, 2, 0, 1]
        self.assertEqual(
            answers(line),
            [2, 3, 1, 5, 1, 0, 0, 0, 0, 2, 1, 16, 1, 1, 2, 0, 1, 1, -1, 10, *FIRST],
        )


class SeveralCalls(unittest.TestCase):
    def test_each_call_alone(self):
        self.assertEqual(answers([1]), [1, 0])
        self.assertEqual(answers([2]), [4, 0, 0, 0, 0])
        self.assertEqual(answers([3]), [2, 1, 0])
        self.assertEqual(answers([4, 0, 1, 0]), [1, 1])
        self.assertEqual(answers([0, 0]), [1, -1])
        self.assertEqual(answers([0, 1, 0]), [2, 0, 0])
        self.assertEqual(answers([4, 0, 0]), [1, -1])

    def test_lists_longer_than_what_they_tell(self):
        """What is left over of a refused list is not read as a call."""
        self.assertEqual(answers([0, 3, 0, 1, 1, 1]), [1, -1, 1, 0])
        self.assertEqual(answers([0, 2, 5, 0, 1]), [1, -1, 1, 0])
        self.assertEqual(answers([4, 7, 5, 4, 1, 1, 1, 1, 1]), [1, -1, 1, 0])

    def test_programs_one_behind_another(self):
        self.assertEqual(
            ask(
                ENDS, program(row(to_end(UP))), ENDS, program([HUGE]), ENDS, TOLD,
                program(row(loop(2, DOWN), part(paste(2)))), ENDS, TOUCHES, allowed(0, 1, 2), allowed(0, 0),
                program([0]), ENDS, TOUCHES, TOLD, allowed(0, 0),
            ),
            [
                [1, 0], [2, 1], [0, 0], [-1], [0, 0], row(to_end(UP)),
                [4, 1], [1, 3], [1, 2, 1, 0, 0, 1], [1], [0, 3],
                [0, 0], [1, 0], [0, 0, 0, 0], [0], [1],
            ],
        )

    def test_refusals_leave_all_answers(self):
        numbers = row(to_end(write(1), DOWN), copy(2))
        asked = [TOLD, TOUCHES, ENDS, allowed(0, 1, 0)]
        refused = [program([]), program([0, 0]), program([-1]), allowed(2, 0), allowed(0)]
        given = ask(program(numbers), *asked, *refused, *asked)
        self.assertEqual(given[5:10], [[-1]] * 5)
        self.assertEqual(given[1:5], given[10:])

    def test_sixty_long_calls(self):
        longest = row(*[write(0, -999, 999)] * 16)
        given = ask(*[program(longest), TOLD] * 30)
        self.assertEqual(given, [[16, 0], longest] * 30)
        self.assertEqual(ask(*[program([HUGE] * 120)] * 60), [[-1]] * 60)

    def test_all_kinds_of_numbers_at_their_ends(self):
        self.assertEqual(
            ask(program([HUGE] * 120), program([-HUGE] * 120), allowed(HUGE, *[HUGE] * 5), allowed(-HUGE, -HUGE)),
            [[-1]] * 4,
        )


class NothingKept(unittest.TestCase):
    LINE = [0, 10, *FIRST, 1, 2, 3, 4, 0, 2, 1, 1]

    def test_the_list_stays_as_it_was(self):
        line = list(self.LINE)
        answers(line)
        self.assertEqual(line, self.LINE)

    def test_a_second_time_begins_anew(self):
        once = answers(list(self.LINE))
        self.assertEqual(answers([1]), [1, 0])
        self.assertEqual(answers([1, 2, 3]), [1, 0, 4, 0, 0, 0, 0, 2, 1, 0])
        self.assertEqual(answers(list(self.LINE)), once)

    def test_changing_an_answer_changes_no_later_one(self):
        given = answers([1])
        given[1] = 7
        given.append(7)
        self.assertEqual(answers([1]), [1, 0])


if __name__ == "__main__":
    unittest.main()
