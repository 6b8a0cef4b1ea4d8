"""The call allowed."""

import itertools
import unittest

from helper import DELETE, DOUBLE, DOWN, HUGE, TOLD, TOP, UP, add, allowed, ask, ask_of, copy, find, loop, part, paste
from helper import row, to_end, write

ALL = (3, 0, 1, 2)


class AllowedCase(unittest.TestCase):
    def given(self, pieces, rows, *fields):
        return ask_of(row(*pieces), allowed(rows, *fields))[0]


class Refusals(AllowedCase):
    def refused(self, rows, *fields):
        with self.subTest(rows=rows, fields=fields):
            program = row(DOWN, write(0))
            self.assertEqual(ask_of(program, allowed(rows, *fields), TOLD), [[-1], program])
            self.assertEqual(ask(allowed(rows, *fields), TOLD), [[-1], [0]])

    def test_rows(self):
        for rows in (-1, 2, 3, 10, -2, HUGE, -HUGE):
            self.refused(rows, 0)
            self.refused(rows, *ALL)
            self.refused(rows)
        for rows in (0, 1):
            self.assertEqual(ask(allowed(rows, 0)), [[1]])

    def test_both_rows_and_fields_wrong(self):
        self.refused(2, 1, 3)

    def test_too_short(self):
        for rows in (0, 1):
            self.refused(rows)
            self.refused(rows, 1)
            self.refused(rows, 2, 0)
            self.refused(rows, 3, 0, 1)

    def test_left_over(self):
        for rows in (0, 1):
            self.refused(rows, 0, 0)
            self.refused(rows, 1, 0, 1)
            self.refused(rows, 2, 0, 1, 2)
            self.refused(rows, 3, 0, 1, 2, 0)

    def test_too_many(self):
        for rows in (0, 1):
            self.refused(rows, 4, 0, 1, 2, 0)
            self.refused(rows, 5, 0, 1, 2, 0)
            self.refused(rows, HUGE, 0, 1, 2)

    def test_counts_below_zero(self):
        for rows in (0, 1):
            self.refused(rows, -1)
            self.refused(rows, -1, 0)
            self.refused(rows, -HUGE)

    def test_out_of_range(self):
        for wrong in (-1, 3, 4, HUGE, -HUGE):
            self.refused(0, 1, wrong)
            self.refused(1, 1, wrong)
            for place in (1, 2, 3):
                fields = list(ALL)
                fields[place] = wrong
                self.refused(0, *fields)


class Fields(AllowedCase):
    def test_new_object(self):
        self.assertEqual(ask(allowed(0, 0), allowed(1, 0), allowed(0, *ALL)), [[1], [1], [1]])

    def test_whatever_order_and_several_times(self):
        pieces = [write(0), add(1), paste(2)]
        for count in range(4):
            for fields in itertools.product((0, 1, 2), repeat=count):
                missing = [field for field in (0, 1, 2) if field not in fields]
                expected = [0, missing[0]] if missing else [1]
                self.assertEqual(self.given(pieces, 0, count, *fields), expected)
                self.assertEqual(self.given(pieces, 1, count, *fields), expected)

    def test_each_writing_deed(self):
        for writing in (write, add, paste):
            for field in (0, 1, 2):
                for other in (0, 1, 2):
                    expected = [1] if other == field else [0, 0]
                    self.assertEqual(self.given([writing(field)], 0, 1, other), expected)
                self.assertEqual(self.given([writing(field)], 1, 0), [0, 0])
                self.assertEqual(self.given([writing(field)], 0, 3, field, field, field), [1])

    def test_reading_is_not_against_it(self):
        for piece in (copy(0), find(1), part(field=2), DOWN, UP, TOP, loop(2), to_end()):
            self.assertEqual(self.given([piece], 0, 0), [1])
            self.assertEqual(self.given([piece], 1, 0), [1])


class Rows(AllowedCase):
    def test_deeds_that_change_rows(self):
        for piece in (DELETE, DOUBLE):
            self.assertEqual(self.given([piece], 0, *ALL), [0, 0])
            self.assertEqual(self.given([piece], 0, 0), [0, 0])
            self.assertEqual(self.given([piece], 1, 0), [1])
            self.assertEqual(self.given([piece], 1, *ALL), [1])
            self.assertEqual(self.given([DOWN, piece], 0, 0), [0, 1])

    def test_rows_do_not_loosen_the_fields(self):
        self.assertEqual(self.given([DELETE, write(2)], 1, 1, 0), [0, 1])


class FirstAgainst(AllowedCase):
    def test_the_first_of_either_sort(self):
        self.assertEqual(self.given([DOWN, write(1), DELETE], 0, 1, 0), [0, 1])
        self.assertEqual(self.given([DOWN, DELETE, write(1)], 0, 1, 0), [0, 1])
        self.assertEqual(self.given([write(1), DELETE, add(2)], 0, 1, 1), [0, 1])
        self.assertEqual(self.given([write(1), DELETE, add(2)], 1, 1, 1), [0, 2])
        self.assertEqual(self.given([write(1), copy(2), paste(2), paste(0)], 1, 1, 1), [0, 2])

    def test_within_loops_and_parts(self):
        for around in (lambda *p: loop(2, *p), to_end, part):
            self.assertEqual(self.given([around(write(1))], 0, 1, 0), [0, 1])
            self.assertEqual(self.given([around(DELETE)], 0, 1, 0), [0, 1])
            self.assertEqual(self.given([around(DOWN, around(UP), DOUBLE)], 0, 0), [0, 4])
            self.assertEqual(self.given([around(around(around(add(2))))], 1, 2, 0, 1), [0, 3])
            self.assertEqual(self.given([around(DOWN, UP), write(1), around(write(2))], 0, 0), [0, 3])
            self.assertEqual(self.given([around(around(write(1))), write(1)], 0, 0), [0, 2])
            self.assertEqual(self.given([around(around(write(1))), write(1)], 0, 1, 1), [1])

    def test_the_last_of_sixteen(self):
        self.assertEqual(self.given([DOWN] * 15 + [write(0)], 0, 0), [0, 15])
        self.assertEqual(self.given([DOWN] * 15 + [write(0)], 0, 1, 0), [1])


if __name__ == "__main__":
    unittest.main()
