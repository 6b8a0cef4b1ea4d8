"""The call changed."""

import unittest

from helper import DELETE, DOUBLE, DOWN, HUGE, TOLD, TOP, UP, add, ask, ask_of, changed, copy, find, loop, paste, row
from helper import run, table, to_end, write

A = (1, 2, 3)
B = (4, 5, 6)
C = (7, 8, 9)


class ChangedCase(unittest.TestCase):
    def places(self, pieces, given, *expected):
        numbers = row(*pieces)
        answer = [len(expected)] + [number for place in expected for number in place]
        with self.subTest(numbers=numbers, given=given):
            self.assertEqual(ask_of(numbers, changed(given)), [answer])

    def rows_differ(self, pieces, given):
        numbers = row(*pieces)
        with self.subTest(numbers=numbers, given=given):
            self.assertEqual(ask_of(numbers, changed(given), TOLD), [[-4], numbers])


class Places(ChangedCase):
    def test_none(self):
        self.places([], table())
        self.places([], table(A, B, cursor=2, clipboard=9))
        self.assertEqual(ask(changed(table(A))), [[0]])

    def test_cursor_and_clipboard_are_no_places(self):
        self.places([DOWN, copy(1), TOP, find(0, 4)], table(A, B))
        self.places([UP], table(A, B, cursor=2))

    def test_another_value_only(self):
        self.places([write(0, 1), write(1, 3)], table(A), (0, 1))
        self.places([write(0, 9), write(0, 1)], table(A))
        self.places([add(2, 0)], table(A))
        self.places([copy(1), paste(1), paste(0)], table(A), (0, 0))
        self.places([write(0, 8), write(0, 9)], table(A), (0, 0))

    def test_by_the_row_then_by_the_field(self):
        self.places([DOWN, write(2), write(0), UP, write(1), DOWN, DOWN, write(0), write(1)], table(A, B, C),
                    (0, 1), (1, 0), (1, 2), (2, 0), (2, 1))
        self.places([to_end(write(2, 0), write(1, 0), write(0, 0), DOWN)], table(A, B), (0, 0), (0, 1), (0, 2), (1, 0),
                    (1, 1), (1, 2))

    def test_all_places(self):
        self.places(
            [to_end(write(0, 0), write(1, 0), write(2, 0), DOWN)], table(*[A] * 8),
            *[(place, field) for place in range(8) for field in range(3)],
        )


class HoweverItEnded(ChangedCase):
    def test_at_a_fault(self):
        self.places([write(1, 0), UP, write(2, 0)], table(A, B), (0, 1))
        self.places([add(0, 999)], table(A))
        self.places([add(0, 990), add(0, 990)], table(A), (0, 0))
        self.places([to_end(write(0, 0), DOWN), DOWN], table(A, B), (0, 0), (1, 0))

    def test_too_long(self):
        self.places([write(1, 0), to_end()], table(A), (0, 1))
        self.places([loop(9, *[add(2, 1)] * 7)], table(A), (0, 2))


class RowsThatWentOrCame(ChangedCase):
    def test_another_number_of_rows(self):
        self.rows_differ([DELETE], table(A, B))
        self.rows_differ([DELETE], table(A))
        self.rows_differ([DOUBLE], table(A))
        self.rows_differ([write(0, 0), DOUBLE, UP], table(A))
        self.rows_differ([to_end(DELETE)], table(A, B, C, cursor=2))
        self.rows_differ([DELETE, to_end()], table(A, B))

    def test_rows_that_were_not_there_to_go(self):
        self.places([DELETE], table(A, cursor=1))
        self.places([DOUBLE], table(*[A] * 8))
        self.places([to_end(DELETE)], table(A, B, cursor=2))

    def test_as_many_rows_as_before(self):
        self.places([DELETE, DOUBLE], table(A, B), (0, 0), (0, 1), (0, 2))
        self.places([DOUBLE, DELETE], table(A, B))
        self.places([DOUBLE, DOWN, DOWN, DELETE], table(A, (1, 0, 3), C), (1, 1))


class Refusals(unittest.TestCase):
    def refused(self, numbers):
        with self.subTest(numbers=numbers):
            program = row(write(0, 0), DELETE)
            self.assertEqual(ask_of(program, changed(numbers), TOLD), [[-1], program])

    def test_not_whole_a_table(self):
        whole = table(A, B, cursor=1, clipboard=5)
        for length in range(len(whole)):
            self.refused(whole[:length])
        for more in ([0], [HUGE], [0] * 5):
            self.refused(whole + more)
        self.refused(table(*[A] * 9))
        for place, wrongs in ((0, (-1, 1, 3, 9)), (1, (-1000, 1000)), (6, (-1000, 1000)), (7, (-1, 3)),
                              (8, (-1000, 1000))):
            for wrong in wrongs + (-HUGE, HUGE):
                self.refused(whole[:place] + [wrong] + whole[place + 1:])

    def test_the_list_ahead_of_the_rows(self):
        """A list that isn't whole a table is looked at ahead of what its run would do to the rows."""
        self.refused(table(A, cursor=2))
        self.assertEqual(ask_of(row(DELETE), changed(table(A) + [0]), changed(table(A))), [[-1], [-4]])


class NothingChanges(unittest.TestCase):
    def test_program_and_later_runs(self):
        numbers = row(add(0, 1), DOWN)
        given = table(A, B)
        self.assertEqual(
            ask_of(numbers, changed(given), run(given), changed(given), run(given), TOLD),
            [[1, 0, 0], [2, 0] + table((2, 2, 3), B, cursor=1)] * 2 + [numbers],
        )


if __name__ == "__main__":
    unittest.main()
