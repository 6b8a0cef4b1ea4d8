"""The call same."""

import unittest

from helper import DELETE, DOUBLE, DOWN, HUGE, TOLD, TOP, UP, add, ask, ask_of, copy, find, paste, recording, row, run
from helper import same, table, to_end, write

WELL = 0
NO_ROW_HERE = 1
AT_ROW_0 = 2
BEYOND = 3
EIGHT_ROWS = 4
NONE_FOUND = 5

A = (1, 2, 3)
B = (4, 5, 6)


class SameCase(unittest.TestCase):
    def same(self, deeds, given, recorded, cleaned, alike):
        with self.subTest(deeds=deeds, given=given):
            self.assertEqual(ask(same(recording(*deeds), given)), [[recorded, cleaned, alike]])


class EndsWell(SameCase):
    def well(self, deeds, given):
        self.same(deeds, given, WELL, WELL, 1)

    def test_without_slips(self):
        self.well([], table())
        self.well([], table(A, B, cursor=2, clipboard=9))
        self.well([DOWN, write(0, 9), copy(1), UP, paste(2), DOUBLE], table(A, B))

    def test_each_slip(self):
        for deeds in (
            [DOWN, UP], [DOUBLE, DELETE], [DOWN, TOP], [find(0, 4), TOP], [TOP, TOP], [copy(0), copy(1)],
            [write(0, 1), write(0, 2)], [add(0, 1), write(0, 2)], [paste(0), write(0, 2)], [write(0, 2), paste(0)],
            [add(0, 2), paste(0)], [paste(0), paste(0)], [add(0, 1), add(0, 2)], [add(0, 1), add(0, -1)],
            [write(0, 1), add(0, 2)],
        ):
            self.well(deeds, table(A, B, clipboard=7))
        for deeds in ([UP, DOWN], [UP, TOP]):
            self.well(deeds, table(A, B, cursor=1, clipboard=7))

    def test_a_sum_beyond(self):
        self.well([add(0, 999), add(0, 999)], table((-999, 0, 0)))
        self.well([add(1, -999), add(1, -1)], table((0, 999, 0)))

    def test_twenty_deeds(self):
        self.well([add(0, 1)] * 20, table(A))
        self.well([add(0, 1), copy(1)] * 10, table(A))


class AtAFault(SameCase):
    def test_the_recording_alone(self):
        """The table is the same then, where the recording did nothing that the cleaned one doesn't do."""
        self.same([DOWN, UP], table(), NO_ROW_HERE, WELL, 1)
        self.same([UP, DOWN], table(A), AT_ROW_0, WELL, 1)
        self.same([DOUBLE, DELETE], table(*[A] * 8), EIGHT_ROWS, WELL, 1)
        self.same([find(0, 9), TOP], table(A, B), NONE_FOUND, WELL, 1)
        self.same([add(0, 999), add(0, -999)], table(A), BEYOND, WELL, 1)
        self.same([copy(0), copy(1)], table(), NO_ROW_HERE, NO_ROW_HERE, 1)

    def test_tables_that_differ(self):
        self.same([UP, DOWN, write(0, 9)], table(A), AT_ROW_0, WELL, 0)
        self.same([add(0, 999), write(0, 5)], table(A), BEYOND, WELL, 0)
        self.same([DOWN, UP, TOP, TOP], table(A, cursor=1), NO_ROW_HERE, WELL, 0)
        self.same([write(0, 999), add(0, 1)], table(A), BEYOND, BEYOND, 0)
        self.same([DOUBLE, DELETE, DELETE], table(*[A] * 8), EIGHT_ROWS, WELL, 0)

    def test_the_cursor_alone_differs(self):
        self.same([find(0, 9), TOP], table(A, B, cursor=1), NONE_FOUND, WELL, 0)
        self.same([DOWN, TOP], table(A, cursor=1), NO_ROW_HERE, WELL, 0)

    def test_the_clipboard_alone_differs(self):
        self.same([UP, DOWN, copy(0)], table(A, clipboard=5), AT_ROW_0, WELL, 0)
        self.same([UP, DOWN, copy(0)], table(A, clipboard=1), AT_ROW_0, WELL, 1)

    def test_the_number_of_rows_alone_differs(self):
        self.same([UP, DOWN, DELETE], table(A), AT_ROW_0, WELL, 0)
        self.same([UP, DOWN, DOUBLE], table(A), AT_ROW_0, WELL, 0)

    def test_both_at_a_fault(self):
        self.same([UP], table(A), AT_ROW_0, AT_ROW_0, 1)
        self.same([write(0, 5), UP], table(A), AT_ROW_0, AT_ROW_0, 1)
        self.same([UP, DOWN, UP], table(A), AT_ROW_0, AT_ROW_0, 1)
        self.same([add(0, 999), write(0, 1), DOWN, DOWN], table(A), BEYOND, NO_ROW_HERE, 0)
        self.same([add(0, 999), add(0, 999)], table(A), BEYOND, BEYOND, 1)
        self.same([add(0, 900), add(0, 900)], table(A), BEYOND, BEYOND, 0)


class ProgramsDoNotCount(unittest.TestCase):
    def test_the_program_is_not_run_and_stays(self):
        numbers = row(to_end(UP), DELETE)
        given = ask_of(numbers, same(recording(DOWN, UP), table(A)), TOLD, run(table()))
        self.assertEqual(given, [[0, 0, 1], numbers, [0, 1] + table()])

    def test_more_deeds_than_a_program_may_have(self):
        self.assertEqual(ask(same(recording(*[DOWN, UP] * 10), table(A))), [[0, 0, 1]])
        self.assertEqual(ask(same(recording(*[write(0), write(1)] * 10), table(A))), [[0, 0, 1]])


class Refusals(unittest.TestCase):
    DEEDS = recording(DOWN, write(0, 7), copy(2), UP)
    TABLE = table(A, B, cursor=1, clipboard=-999)

    def refused(self, deeds, given):
        with self.subTest(deeds=deeds, given=given):
            numbers = row(write(0), DOWN)
            self.assertEqual(ask_of(numbers, same(deeds, given), TOLD), [[-1], numbers])

    def test_taken(self):
        self.assertEqual(ask(same(self.DEEDS, self.TABLE)), [[1, 1, 1]])

    def test_deeds(self):
        for length in range(len(self.DEEDS)):
            self.refused(self.DEEDS[:length], self.TABLE)
        for wrong in (
            self.DEEDS + [0], [HUGE], [-HUGE], [-1], [21], recording(*[DOWN] * 21), [1, 10], [1, -1], [1, 3, 3, 0],
            [1, 3, 0, 1000], [1, 4, 0, -1000], [1, 9, -1, 0], [1, 5, 3], [1, 3, 0, 5, 0], [0] * 80,
        ):
            self.refused(wrong, self.TABLE)

    def test_table(self):
        for length in range(len(self.TABLE)):
            self.refused(self.DEEDS, self.TABLE[:length])
        for wrong in (
            self.TABLE + [0], [HUGE], [-HUGE], [-1, 0, 0], table(A, cursor=2), table(A, cursor=-1),
            table(A, clipboard=1000), table(A, clipboard=-1000), table((1000, 0, 0)), table((0, 0, -1000)),
            table(*[A] * 9), [0] * 40,
        ):
            self.refused(self.DEEDS, wrong)
            self.refused([0], wrong)

    def test_both(self):
        self.refused([], [])
        self.refused([HUGE] * 80, [HUGE] * 40)

    def test_the_lists_change_places(self):
        self.refused(self.TABLE, self.DEEDS)


if __name__ == "__main__":
    unittest.main()
