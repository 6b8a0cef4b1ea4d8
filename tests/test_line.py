"""A line of calls: the document's example, and calls one behind another."""

import unittest

from programends.gate import answers

from helper import (
    DELETE, DOUBLE, DOWN, ENDS, HUGE, TOLD, TOP, TOUCHES, UP, add, allowed, ask, changed, clean, copy, join, loop, part,
    paste, program, recording, row, run, same, table, to_end, write,
)

FIRST = [1, 2, 2, 0, 3, 0, 7, 1, 0, 0]
JOINED = [2, 2, 2, 0, 3, 0, 7, 1, 0, 0, 2, 1, 0, 1]
CLIPBOARD = [2, 3, 0, 1, 1, 0, 5, 2, 0, 6, 1]


class Example(unittest.TestCase):
    CALLS = [
        (program(FIRST), [3, 1]),
        (TOUCHES, [1, 0, 0, 0, 0]),
        (ENDS, [1, 16]),
        (allowed(0, 1, 0), [1]),
        (allowed(0, 1, 1), [0, 1]),
        (run([2, 1, 2, 3, 4, 5, 6, 0, 0]), [4, 0, 2, 7, 2, 3, 8, 5, 6, 2, 0]),
        (changed([2, 1, 2, 3, 4, 5, 6, 0, 0]), [2, 0, 0, 1, 0]),
        (join([1, 2, 1, 0, 1]), [5, 0]),
        (ENDS, [0, 3]),
        (TOLD, JOINED),
        (allowed(2, 0), [-1]),
        (program(CLIPBOARD), [3, 1]),
        (TOUCHES, [1, 1, 2, 0, 2, 0, 1]),
        (clean([7, 0, 1, 3, 0, 5, 4, 0, 2, 0, 2, 2]), [5, 2, 3, 0, 7, 2]),
        (same([2, 0, 1], [0, 0, 0]), [1, 0, 1]),
    ]

    def test_whole(self):
        self.assertEqual(ask(*[call for call, answer in self.CALLS]), [answer for call, answer in self.CALLS])

    def test_as_numbers(self):
        line = [
            0, 10, 1, 2, 2, 0, 3, 0, 7, 1, 0, 0, 2, 3, 4, 0, 2, 1, 0, 4, 0, 2, 1, 1,
            5, 9, 2, 1, 2, 3, 4, 5, 6, 0, 0, 6, 9, 2, 1, 2, 3, 4, 5, 6, 0, 0, 7, 5, 1, 2, 1, 0, 1, 3, 1, 4, 2, 1, 0,
            0, 11, 2, 3, 0, 1, 1, 0, 5, 2, 0, 6, 1, 2,
            8, 12, 7, 0, 1, 3, 0, 5, 4, 0, 2, 0, 2, 2, 9, 3, 2, 0, 1, 3, 0, 0, 0,
        ]
        self.assertEqual(
            answers(line),
            [
                2, 3, 1, 5, 1, 0, 0, 0, 0, 2, 1, 16, 1, 1, 2, 0, 1,
                11, 4, 0, 2, 7, 2, 3, 8, 5, 6, 2, 0, 5, 2, 0, 0, 1, 0, 2, 5, 0, 2, 0, 3,
                14, 2, 2, 2, 0, 3, 0, 7, 1, 0, 0, 2, 1, 0, 1, 1, -1,
                2, 3, 1, 7, 1, 1, 2, 0, 2, 0, 1, 6, 5, 2, 3, 0, 7, 2, 3, 1, 0, 1,
            ],
        )

    def test_the_joined_program_given_at_once(self):
        self.assertEqual(
            ask(program(JOINED), ENDS, TOLD, allowed(2, 0)),
            [[5, 1], [0, 3], JOINED, [-1]],
        )


class SeveralCalls(unittest.TestCase):
    def test_each_call_alone(self):
        self.assertEqual(answers([1]), [1, 0])
        self.assertEqual(answers([2]), [4, 0, 0, 0, 0])
        self.assertEqual(answers([3]), [2, 1, 0])
        self.assertEqual(answers([4, 0, 1, 0]), [1, 1])
        self.assertEqual(answers([0, 0]), [1, -1])
        self.assertEqual(answers([0, 1, 0]), [2, 0, 0])
        self.assertEqual(answers([4, 0, 0]), [1, -1])
        self.assertEqual(answers([5, 3, 0, 0, 0]), [5, 0, 0, 0, 0, 0])
        self.assertEqual(answers([5, 0]), [1, -1])
        self.assertEqual(answers([6, 3, 0, 0, 0]), [1, 0])
        self.assertEqual(answers([6, 0]), [1, -1])
        self.assertEqual(answers([7, 1, 0]), [2, 0, 1])
        self.assertEqual(answers([7, 0]), [1, -1])
        self.assertEqual(answers([8, 1, 0]), [2, 0, 0])
        self.assertEqual(answers([8, 0]), [1, -1])
        self.assertEqual(answers([9, 1, 0, 3, 0, 0, 0]), [3, 0, 0, 1])
        self.assertEqual(answers([9, 0, 0]), [1, -1])

    def test_lists_longer_than_what_they_tell(self):
        """What is left over of a refused list is not read as a call."""
        self.assertEqual(answers([0, 3, 0, 1, 1, 1]), [1, -1, 1, 0])
        self.assertEqual(answers([0, 2, 5, 0, 1]), [1, -1, 1, 0])
        self.assertEqual(answers([4, 7, 5, 4, 1, 1, 1, 1, 1]), [1, -1, 1, 0])
        self.assertEqual(answers([5, 4, 0, 0, 0, 1, 1]), [1, -1, 1, 0])
        self.assertEqual(answers([6, 4, 0, 0, 0, 1, 1]), [1, -1, 1, 0])
        self.assertEqual(answers([7, 2, 0, 1, 1]), [1, -1, 1, 0])
        self.assertEqual(answers([8, 2, 0, 1, 1]), [1, -1, 1, 0])
        self.assertEqual(answers([9, 2, 0, 1, 3, 0, 0, 0, 1]), [1, -1, 1, 0])
        self.assertEqual(answers([9, 1, 0, 4, 0, 0, 0, 1, 1]), [1, -1, 1, 0])

    def test_programs_one_behind_another(self):
        self.assertEqual(
            ask(
                ENDS, program(row(to_end(UP))), ENDS, program([HUGE]), ENDS, TOLD,
                program(row(loop(2, DOWN), part(paste(2)))), ENDS, TOUCHES, allowed(0, 1, 2), allowed(0, 0),
                program([0]), ENDS, TOUCHES, TOLD, allowed(0, 0),
            ),
            [
                [1, 0], [2, 1], [0, 0], [-1], [0, 0], row(to_end(UP)),
                [4, 1], [1, 3], [1, 2, 1, 0, 0, 1], [1], [0, 3],
                [0, 0], [1, 0], [0, 0, 0, 0], [0], [1],
            ],
        )

    def test_refusals_leave_all_answers(self):
        numbers = row(to_end(write(1), DOWN), copy(2))
        asked = [TOLD, TOUCHES, ENDS, allowed(0, 1, 0)]
        asked += [run(table((1, 2, 3))), changed(table((1, 2, 3))), clean([0]), same([0], table())]
        refused = [
            program([]), program([0, 0]), program([-1]), allowed(2, 0), allowed(0), run([]), run([1]), changed([-1]),
            changed(table() + [0]), join([]), join([17]), clean([]), clean([1]), same([], table()), same([0], []),
        ]
        given = ask(program(numbers), *asked, *refused, *asked)
        self.assertEqual(given[9:24], [[-1]] * 15)
        self.assertEqual(given[1:9], given[24:])

    def test_sixty_long_calls(self):
        longest = row(*[write(0, -999, 999)] * 16)
        given = ask(*[program(longest), TOLD] * 30)
        self.assertEqual(given, [[16, 0], longest] * 30)
        self.assertEqual(ask(*[program([HUGE] * 120)] * 60), [[-1]] * 60)

    def test_sixty_long_runs(self):
        longest = row(to_end(loop(9, *[loop(9)] * 14)))
        full = table(*[(999, -999, 999)] * 8, clipboard=-999)
        given = ask(program(longest), *[run(full), changed(full)] * 29, TOLD)
        self.assertEqual(given, [[16, 3]] + [[0, 6] + full, [0]] * 29 + [longest])

    def test_all_kinds_of_numbers_at_their_ends(self):
        for huge in (HUGE, -HUGE):
            self.assertEqual(
                ask(
                    program([huge] * 120), allowed(huge, *[huge] * 5), allowed(0, *[huge] * 5), run([huge] * 40),
                    changed([huge] * 40), join([huge] * 120), clean([huge] * 80), same([huge] * 80, [huge] * 40),
                    same([0], [huge] * 40),
                ),
                [[-1]] * 9,
            )

    def test_all_kinds_one_behind_another(self):
        a, b, c = (1, 2, 3), (4, 5, 6), (7, 8, 9)
        calls = [
            (run(table(a, cursor=1)), [0, 0] + table(a, cursor=1)),
            (join(row(write(0, 5, 10))), [1, 1]),
            (run(table(a, b)), [1, 0] + table((5, 2, 3), b)),
            (join(row(loop(2, DOWN), UP)), [4, 1]),
            (changed(table(a, b)), [1, 0, 0]),
            (run(table(a)), [2, 1] + table((5, 2, 3), cursor=1)),
            (join([1]), [-1]),
            (clean(recording(write(1, 999), add(1, 999))), [1, 1, 3, 1, 1998]),
            (same(recording(add(1, 999), add(1, 999)), table((0, -999, 0))), [0, 0, 1]),
            (TOLD, row(write(0, 5, 10), loop(2, DOWN), UP)),
            (join(row(*[TOP] * 13)), [-6]),
            (ENDS, [1, 4]),
            (join(row(DOUBLE)), [5, 1]),
            (changed(table(a, b)), [-4]),
            (run(table(a, b, clipboard=8)), [5, 0] + table((5, 2, 3), b, b, cursor=1, clipboard=8)),
            (changed(table(a)), [1, 0, 0]),
            (TOUCHES, [1, 0, 0, 1, 0]),
            (allowed(0, 1, 0), [0, 4]),
            (allowed(1, 1, 0), [1]),
            (join(row(to_end(copy(1)))), [7, 0]),
            (ENDS, [0, 5]),
            (run(table(a, b)), [60, 6] + table((5, 2, 3), b, b, cursor=1, clipboard=5)),
            (program(row(part(DELETE, value=4), paste(2))), [3, 1]),
            (run(table(a, b, c, cursor=1, clipboard=-7)), [2, 0] + table(a, (7, 8, -7), cursor=1, clipboard=-7)),
            (changed(table(a, b, c, clipboard=-7)), [1, 0, 2]),
            (run(table()), [0, 1] + table()),
            (changed(table(a, b, (4, 8, 9), cursor=3)), [0]),
            (same(recording(UP, DOWN, write(0, 9)), table(a)), [2, 0, 0]),
            (clean(recording()), [0, 0]),
            (TOLD, row(part(DELETE, value=4), paste(2))),
        ]
        self.assertEqual(ask(*[call for call, answer in calls]), [answer for call, answer in calls])
        self.assertEqual(
            ask(*[call for call, answer in calls], program([0]), *[call for call, answer in calls[:29]]),
            [answer for call, answer in calls] + [[0, 0]] + [answer for call, answer in calls[:29]],
        )


class Watched(list):
    """A list that fails when it is changed."""

    def fail(self, *given):
        raise AssertionError("the list handed in was changed")

    append = clear = extend = insert = pop = remove = reverse = sort = fail
    __setitem__ = __delitem__ = __iadd__ = __imul__ = fail


class NothingKept(unittest.TestCase):
    LINE = [
        0, 10, *FIRST, 1, 2, 3, 4, 0, 2, 1, 1, 5, 6, 1, 1, 2, 3, 0, 0, 6, 6, 1, 1, 2, 3, 0, 0, 7, 3, 1, 0, 0,
        8, 3, 2, 0, 1, 9, 3, 2, 0, 1, 6, 1, 1, 2, 3, 0, 0,
    ]

    def test_the_list_stays_as_it_was(self):
        line = list(self.LINE)
        answers(line)
        self.assertEqual(line, self.LINE)

    def test_a_second_time_begins_anew(self):
        once = answers(list(self.LINE))
        self.assertEqual(answers([1]), [1, 0])
        self.assertEqual(answers([1, 2, 3]), [1, 0, 4, 0, 0, 0, 0, 2, 1, 0])
        self.assertEqual(answers(list(self.LINE)), once)

    def test_a_join_is_gone_the_next_time(self):
        self.assertEqual(answers([7, 3, 1, 0, 0, 1]), [2, 1, 1, 3, 1, 0, 0])
        self.assertEqual(answers([1, 7, 3, 1, 0, 0, 1]), [1, 0, 2, 1, 1, 3, 1, 0, 0])

    def test_the_list_is_not_changed_for_a_while_either(self):
        line = Watched(self.LINE)
        self.assertEqual(answers(line), answers(list(self.LINE)))
        self.assertEqual(list(line), self.LINE)

    def test_changing_an_answer_changes_no_later_one(self):
        given = answers([1])
        given[1] = 7
        given.append(7)
        self.assertEqual(answers([1]), [1, 0])


if __name__ == "__main__":
    unittest.main()
