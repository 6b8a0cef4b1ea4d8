"""The call run: each deed and its faults, and how pieces are run."""

import unittest

from helper import DELETE, DOUBLE, DOWN, HUGE, TOLD, TOP, UP, add, ask, ask_of, copy, find, loop, part, paste, row
from helper import run, table, to_end, write

WELL = 0
NO_ROW_HERE = 1
AT_ROW_0 = 2
BEYOND = 3
EIGHT_ROWS = 4
NONE_FOUND = 5
TOO_LONG = 6

A = (1, 2, 3)
B = (4, 5, 6)
C = (7, 8, 9)


class RunCase(unittest.TestCase):
    def ran(self, pieces, given, done, ended, then):
        numbers = row(*pieces)
        with self.subTest(numbers=numbers, given=given):
            self.assertEqual(ask_of(numbers, run(given)), [[done, ended] + then])

    def well(self, pieces, given, done, then):
        self.ran(pieces, given, done, WELL, then)

    def fault(self, piece, given, number):
        """The deed is at this fault and the table stays, also with another deed behind it."""
        self.ran([piece], given, 0, number, given)
        self.ran([piece, TOP], given, 0, number, given)


class NoPieces(RunCase):
    def test_table_stays(self):
        for given in (table(), table(A), table(A, B, cursor=2, clipboard=-999), table(*[C] * 8, cursor=8)):
            self.well([], given, 0, given)
            self.assertEqual(ask(run(given)), [[0, 0] + given])

    def test_rows_without_pieces(self):
        given = table(A, B, cursor=1)
        self.well([loop(9), part(field=0, value=4), loop(2, loop(3))], given, 0, given)


class Moves(RunCase):
    def test_down(self):
        self.well([DOWN], table(A, B, clipboard=7), 1, table(A, B, cursor=1, clipboard=7))
        self.well([DOWN], table(A, B, cursor=1), 1, table(A, B, cursor=2))
        self.well([DOWN], table(*[A] * 8, cursor=7), 1, table(*[A] * 8, cursor=8))

    def test_down_at_fault(self):
        self.fault(DOWN, table(), NO_ROW_HERE)
        self.fault(DOWN, table(A, cursor=1), NO_ROW_HERE)
        self.fault(DOWN, table(*[A] * 8, cursor=8), NO_ROW_HERE)

    def test_up(self):
        self.well([UP], table(A, B, cursor=1), 1, table(A, B, cursor=0))
        self.well([UP], table(A, B, cursor=2), 1, table(A, B, cursor=1))
        self.well([UP], table(A, cursor=1, clipboard=-3), 1, table(A, cursor=0, clipboard=-3))

    def test_up_at_fault(self):
        self.fault(UP, table(), AT_ROW_0)
        self.fault(UP, table(A, B), AT_ROW_0)

    def test_top(self):
        for cursor in range(3):
            self.well([TOP], table(A, B, cursor=cursor, clipboard=8), 1, table(A, B, clipboard=8))
        self.well([TOP], table(), 1, table())
        self.well([TOP, TOP], table(), 2, table())


class Write(RunCase):
    def test_each_field(self):
        self.well([write(0, 50)], table(A, B), 1, table((50, 2, 3), B))
        self.well([write(1, -50)], table(A, B, cursor=1, clipboard=4), 1, table(A, (4, -50, 6), cursor=1, clipboard=4))
        self.well([write(2, 0)], table(A, B), 1, table((1, 2, 0), B))

    def test_ends_of_the_range(self):
        for value in (-999, 999):
            self.well([write(1, value)], table(A), 1, table((1, value, 3)))

    def test_no_row_here(self):
        self.fault(write(0), table(), NO_ROW_HERE)
        self.fault(write(2, 999), table(A, B, cursor=2), NO_ROW_HERE)

    def test_too_great_and_too_small(self):
        for step in (1, 999):
            self.ran([loop(2, write(0, 999, step))], table(A), 1, BEYOND, table((999, 2, 3)))
            self.ran([loop(2, write(2, -999, -step))], table(A), 1, BEYOND, table((1, 2, -999)))
        self.well([loop(2, write(0, 998, 1))], table(A), 2, table((999, 2, 3)))
        self.well([loop(2, write(0, -998, -1))], table(A), 2, table((-999, 2, 3)))

    def test_no_row_comes_ahead_of_too_great(self):
        self.ran([loop(2, write(0, 999, 1), DOWN)], table(A), 2, NO_ROW_HERE, table((999, 2, 3), cursor=1))
        self.ran([loop(2, write(0, 999, 1), DOWN)], table(A, B), 2, BEYOND, table((999, 2, 3), B, cursor=1))


class Add(RunCase):
    def test_each_field(self):
        self.well([add(0, 50)], table(A, B), 1, table((51, 2, 3), B))
        self.well([add(1, -50)], table(A, B, cursor=1, clipboard=4), 1, table(A, (4, -45, 6), cursor=1, clipboard=4))
        self.well([add(2, 0)], table(A, B), 1, table(A, B))

    def test_ends_of_the_range(self):
        self.well([add(0, 998)], table(A), 1, table((999, 2, 3)))
        self.well([add(1, -999)], table((0, 0, 0)), 1, table((0, -999, 0)))
        self.well([add(0, 999), add(0, 999)], table((-999, 0, 0)), 2, table((999, 0, 0)))
        self.well([add(0, 0)], table((999, -999, 0)), 1, table((999, -999, 0)))

    def test_no_row_here(self):
        self.fault(add(0), table(), NO_ROW_HERE)
        self.fault(add(2, 999), table((999, 999, 999), cursor=1), NO_ROW_HERE)

    def test_too_great_and_too_small(self):
        self.fault(add(0, 999), table(A), BEYOND)
        self.fault(add(1, 1), table((0, 999, 0)), BEYOND)
        self.fault(add(1, -1), table((0, -999, 0)), BEYOND)
        self.fault(add(2, -999), table((0, 0, -1)), BEYOND)

    def test_what_is_added_may_be_beyond_when_the_value_is_not(self):
        self.well([loop(2, add(0, 999, 1), write(0, -999))], table((-999, 0, 0)), 4, table((-999, 0, 0)))
        self.well([loop(2, write(0, -999), add(0, 999, 999))], table(A), 4, table((999, 2, 3)))

    def test_no_row_comes_ahead_of_too_great(self):
        self.ran([DOWN, add(0, 999)], table((999, 0, 0)), 1, NO_ROW_HERE, table((999, 0, 0), cursor=1))


class Clipboard(RunCase):
    def test_copy(self):
        for field in (0, 1, 2):
            self.well([copy(field)], table(A, B, clipboard=9), 1, table(A, B, clipboard=A[field]))
            self.well([copy(field)], table(A, B, cursor=1), 1, table(A, B, cursor=1, clipboard=B[field]))

    def test_paste(self):
        self.well([paste(0)], table(A, B, clipboard=9), 1, table((9, 2, 3), B, clipboard=9))
        self.well([paste(1)], table(A, B, clipboard=-999), 1, table((1, -999, 3), B, clipboard=-999))
        self.well([paste(2)], table(A, B, cursor=1, clipboard=999), 1, table(A, (4, 5, 999), cursor=1, clipboard=999))

    def test_copy_and_paste(self):
        self.well([copy(2), DOWN, paste(0)], table(A, B), 3, table(A, (3, 5, 6), cursor=1, clipboard=3))
        self.well([copy(0), write(0, 8), paste(1)], table(A), 3, table((8, 1, 3), clipboard=1))

    def test_no_row_here(self):
        for field in (0, 1, 2):
            for piece in (copy(field), paste(field)):
                self.fault(piece, table(clipboard=5), NO_ROW_HERE)
                self.fault(piece, table(A, B, cursor=2, clipboard=5), NO_ROW_HERE)


class Rows(RunCase):
    def test_delete(self):
        self.well([DELETE], table(A, B, C), 1, table(B, C))
        self.well([DELETE], table(A, B, C, cursor=1, clipboard=6), 1, table(A, C, cursor=1, clipboard=6))
        self.well([DELETE], table(A, B, C, cursor=2), 1, table(A, B, cursor=2))
        self.well([DELETE], table(A), 1, table())
        self.well([DELETE, DELETE], table(A, B, C), 2, table(C))

    def test_delete_at_fault(self):
        self.fault(DELETE, table(), NO_ROW_HERE)
        self.fault(DELETE, table(A, cursor=1), NO_ROW_HERE)
        self.ran([DELETE, DELETE], table(A, B, cursor=1), 1, NO_ROW_HERE, table(A, cursor=1))

    def test_double(self):
        self.well([DOUBLE], table(A, B), 1, table(A, A, B))
        self.well([DOUBLE], table(A, B, cursor=1, clipboard=6), 1, table(A, B, B, cursor=1, clipboard=6))
        self.well([DOUBLE], table(*[A] * 6, B, cursor=3), 1, table(*[A] * 7, B, cursor=3))

    def test_double_is_a_row_of_its_own(self):
        self.well([DOUBLE, write(0, 50)], table(A), 2, table((50, 2, 3), A))
        self.well([DOUBLE, DOWN, write(0, 50)], table(A), 3, table(A, (50, 2, 3), cursor=1))

    def test_double_at_fault(self):
        self.fault(DOUBLE, table(), NO_ROW_HERE)
        self.fault(DOUBLE, table(A, cursor=1), NO_ROW_HERE)
        self.fault(DOUBLE, table(*[A] * 8), EIGHT_ROWS)
        self.fault(DOUBLE, table(*[A] * 8, cursor=7), EIGHT_ROWS)
        self.ran([DOUBLE, DOUBLE], table(*[A] * 7, cursor=2), 1, EIGHT_ROWS, table(*[A] * 8, cursor=2))

    def test_no_row_comes_ahead_of_eight_rows(self):
        self.fault(DOUBLE, table(*[A] * 8, cursor=8), NO_ROW_HERE)


class Find(RunCase):
    def test_found(self):
        self.well([find(0, 7)], table(A, B, C, clipboard=3), 1, table(A, B, C, cursor=2, clipboard=3))
        self.well([find(1, 5)], table(A, B, C), 1, table(A, B, C, cursor=1))
        self.well([find(2, 9)], table(A, B, C, cursor=1), 1, table(A, B, C, cursor=2))

    def test_the_next_one_not_the_one_here(self):
        self.well([find(0, 1)], table(A, B, A, A), 1, table(A, B, A, A, cursor=2))
        self.well([find(0, 1), find(0, 1)], table(A, B, A, A), 2, table(A, B, A, A, cursor=3))
        self.well([find(0, 1)], table(A, A), 1, table(A, A, cursor=1))

    def test_none_found(self):
        self.fault(find(0, 1), table(A), NONE_FOUND)
        self.fault(find(0, 2), table(A, B, C), NONE_FOUND)
        self.fault(find(0, 1), table(A, B, C, cursor=1), NONE_FOUND)
        self.fault(find(0, 7), table(A, B, C, cursor=2), NONE_FOUND)

    def test_without_a_row_here_none_is_found(self):
        self.fault(find(0, 0), table(), NONE_FOUND)
        self.fault(find(0, 1), table(A, B, cursor=2), NONE_FOUND)

    def test_a_value_beyond_is_not_found(self):
        self.ran([loop(2, find(0, 999, 1))], table(A, (999, 0, 0), A), 1, NONE_FOUND,
                 table(A, (999, 0, 0), A, cursor=1))


class Steps(RunCase):
    ROWS = [(0, 0, 0)] * 4

    def test_outside_of_loops_it_counts_nothing(self):
        self.well([write(0, 5, 7), add(1, 3, 8)], table(A), 2, table((5, 5, 3)))
        self.well([find(0, 4, 9)], table(A, B), 1, table(A, B, cursor=1))
        self.well([part(write(0, 5, 7))], table(A), 1, table((5, 2, 3)))

    def test_loop_of_rounds(self):
        self.well([loop(3, write(0, 5, 10), DOWN)], table(*self.ROWS), 6,
                  table((5, 0, 0), (15, 0, 0), (25, 0, 0), (0, 0, 0), cursor=3))
        self.well([loop(9, add(2, 1, -1))], table((0, 0, 0)), 9, table((0, 0, -27)))
        self.well([loop(2, find(0, 4, 3))], table(A, B, C), 2, table(A, B, C, cursor=2))
        self.well([loop(1, write(0, 5, 10))], table(A), 1, table((5, 2, 3)))

    def test_loop_to_the_end(self):
        self.well([to_end(write(0, 7, 1), DOWN)], table(*self.ROWS), 8,
                  table((7, 0, 0), (8, 0, 0), (9, 0, 0), (10, 0, 0), cursor=4))
        self.well([to_end(write(0, 7, 1), DOWN)], table(*self.ROWS, cursor=2), 4,
                  table((0, 0, 0), (0, 0, 0), (7, 0, 0), (8, 0, 0), cursor=4))

    def test_behind_a_loop_it_is_0_again(self):
        self.well([loop(3, DOWN), write(0, 5, 10)], table(*self.ROWS), 4,
                  table((0, 0, 0), (0, 0, 0), (0, 0, 0), (5, 0, 0), cursor=3))

    def test_the_innermost_loop_counts(self):
        self.well([loop(2, loop(2, write(0, 1, 10), DOWN))], table(*self.ROWS), 8,
                  table((1, 0, 0), (11, 0, 0), (1, 0, 0), (11, 0, 0), cursor=4))
        self.well([loop(2, loop(2, DOWN), UP, write(1, 1, 10))], table(*self.ROWS), 8,
                  table((0, 0, 0), (0, 1, 0), (0, 11, 0), (0, 0, 0), cursor=2))
        self.well([to_end(loop(2, write(0, 1, 10), DOWN), UP, add(1, 1, 1), DOWN)], table(*self.ROWS), 14,
                  table((1, 0, 0), (11, 1, 0), (1, 0, 0), (11, 2, 0), cursor=4))
        self.well([loop(2, to_end(write(0, 1, 10), DOWN), TOP, write(1, 1, 10))], table((0, 0, 0), (0, 0, 0)), 12,
                  table((1, 11, 0), (11, 0, 0)))

    def test_parts_do_not_count(self):
        self.well([loop(3, part(write(1, 5, 10), value=0), DOWN)], table(*self.ROWS), 6,
                  table((0, 5, 0), (0, 15, 0), (0, 25, 0), (0, 0, 0), cursor=3))
        self.well([to_end(part(part(write(1, 5, 10), value=0), field=2, value=0), DOWN)], table(*self.ROWS), 8,
                  table((0, 5, 0), (0, 15, 0), (0, 25, 0), (0, 35, 0), cursor=4))

    def test_rounds_of_a_loop_within_a_part_within_a_loop(self):
        self.well([loop(2, part(loop(2, write(1, 5, 10), DOWN), value=0))], table(*self.ROWS), 8,
                  table((0, 5, 0), (0, 15, 0), (0, 5, 0), (0, 15, 0), cursor=4))

    def test_a_part_has_no_step(self):
        self.well([loop(3, part(add(1, 1), value=0))], table((0, 0, 0)), 3, table((0, 3, 0)))


class Parts(RunCase):
    def test_done_and_passed_over(self):
        for field in (0, 1, 2):
            self.well([part(TOP, field=field, value=A[field])], table(A), 1, table(A))
            self.well([part(TOP, field=field, value=A[field] + 1)], table(A), 0, table(A))
            self.well([part(DOWN, field=field, value=B[field]), UP], table(A, B, cursor=1), 2, table(A, B, cursor=1))

    def test_no_row_here(self):
        for given in (table(), table(A, cursor=1)):
            for value in (0, 1):
                self.well([part(TOP, value=value)], given, 0, given)

    def test_only_the_row_here_counts(self):
        self.well([part(DOWN, value=4)], table(A, B), 0, table(A, B))
        self.well([DOWN, part(UP, value=1)], table(A, B), 1, table(A, B, cursor=1))

    def test_looked_at_once_not_between(self):
        self.well([part(write(0, 9), write(1, 9))], table(A), 2, table((9, 9, 3)))

    def test_within_each_other(self):
        self.well([part(part(part(write(2, 9), field=2, value=3), field=1, value=2))], table(A), 1, table((1, 2, 9)))
        self.well([part(part(part(write(2, 9), field=2, value=4), field=1, value=2), TOP)], table(A), 1, table(A))

    def test_ends_of_the_range(self):
        self.well([part(TOP, value=-999), part(TOP, field=1, value=999)], table((-999, 999, 0)), 2,
                  table((-999, 999, 0)))


class LoopsToTheEnd(RunCase):
    def test_no_round(self):
        for given in (table(), table(A, B, cursor=2), table(*[A] * 8, cursor=8)):
            self.well([to_end(DOWN)], given, 0, given)
            self.well([to_end()], given, 0, given)
            self.well([to_end(UP), TOP], given, 1, given[:-2] + [0, 0])

    def test_each_row(self):
        for count in range(9):
            rows = [A] * count
            for cursor in range(count + 1):
                self.well([to_end(DOWN)], table(*rows, cursor=cursor), count - cursor, table(*rows, cursor=count))

    def test_rows_deleted(self):
        self.well([to_end(DELETE)], table(A, B, C, clipboard=3), 3, table(clipboard=3))
        self.well([to_end(DELETE)], table(A, B, C, cursor=1), 2, table(A, cursor=1))
        self.well([to_end(DELETE, part(DOWN))], table(B, A, C, A), 4, table(A, A, cursor=2))

    def test_looked_at_between_rounds_only(self):
        self.ran([to_end(DOWN, DOWN)], table(A, B, C), 3, NO_ROW_HERE, table(A, B, C, cursor=3))
        self.well([to_end(DOWN, UP, DOWN)], table(A), 3, table(A, cursor=1))

    def test_within_a_loop_of_rounds(self):
        self.well([loop(2, to_end(add(0, 1), DOWN), TOP)], table(A, B), 10, table((3, 2, 3), (6, 5, 6)))

    def test_within_a_loop_to_the_end(self):
        self.well([to_end(to_end(DOWN), UP, write(0, 0), DOWN)], table(A, B), 5, table(A, (0, 5, 6), cursor=2))


class Faults(RunCase):
    def test_nothing_is_done_behind_it(self):
        for piece, ended in ((UP, AT_ROW_0), (add(0, 999), BEYOND), (find(0, 77), NONE_FOUND)):
            self.ran([piece, write(2, 9)], table(A, B), 0, ended, table(A, B))
            self.ran([write(1, 9), piece, write(2, 9)], table(A, B), 1, ended, table((1, 9, 3), B))
            for around in (lambda *p: loop(2, *p), to_end, part):
                self.ran([around(write(1, 9), piece, DOWN), write(2, 9)], table(A, B), 1, ended, table((1, 9, 3), B))
                self.ran([loop(2, around(write(1, 9), piece, DOWN)), DOWN], table(A, B), 1, ended,
                         table((1, 9, 3), B))
                self.ran([to_end(around(write(1, 9), piece, DOWN)), DOWN], table(A, B), 1, ended, table((1, 9, 3), B))
                self.ran([part(around(write(1, 9), piece, DOWN)), DOWN], table(A, B), 1, ended, table((1, 9, 3), B))

    def test_in_a_later_round(self):
        self.ran([loop(5, DOWN), TOP], table(A, B, C), 3, NO_ROW_HERE, table(A, B, C, cursor=3))
        self.ran([loop(3, loop(2, UP))], table(A, B, C, cursor=3), 3, AT_ROW_0, table(A, B, C))
        self.ran([loop(9, DOUBLE)], table(A, clipboard=2), 7, EIGHT_ROWS, table(*[A] * 8, clipboard=2))


class TooLong(RunCase):
    def test_sixty_deeds_are_not(self):
        self.well([loop(6, *[TOP] * 10)], table(A), 60, table(A))
        self.well([loop(9, *[add(0, 1)] * 6), *[add(0, 1)] * 6], table((0, 0, 0)), 60, table((60, 0, 0)))

    def test_the_61st_deed(self):
        self.ran([loop(6, *[add(0, 1)] * 10), add(0, 1)], table((0, 0, 0)), 60, TOO_LONG, table((60, 0, 0)))
        self.ran([loop(9, *[add(0, 1)] * 7)], table((0, 0, 0)), 60, TOO_LONG, table((60, 0, 0)))
        self.ran([loop(9, loop(9, add(0, 1)))], table((0, 0, 0)), 60, TOO_LONG, table((60, 0, 0)))
        self.ran([to_end(*[add(0, 1)] * 7)], table((0, 0, 0)), 60, TOO_LONG, table((60, 0, 0)))

    def test_the_61st_deed_ahead_of_its_fault(self):
        for piece in (UP, add(0, 999), find(0, 77), DOUBLE):
            rows = [A] * 8
            self.ran([loop(6, *[TOP] * 10), piece], table(*rows), 60, TOO_LONG, table(*rows))
        self.ran([loop(6, *[TOP] * 10), DOWN], table(), 60, TOO_LONG, table())

    def test_the_60th_deeds_fault(self):
        for piece, ended in ((UP, AT_ROW_0), (add(0, 999), BEYOND), (find(0, 77), NONE_FOUND), (DOUBLE, EIGHT_ROWS)):
            rows = [A] * 8
            self.ran([loop(6, *[TOP] * 9), *[TOP] * 5, piece], table(*rows), 59, ended, table(*rows))

    def test_pieces_behind_sixty_deeds_that_do_none(self):
        sixty = loop(6, *[TOP] * 10)
        self.well([sixty, part(DOWN, value=7), loop(9)], table(A), 60, table(A))
        self.well([sixty, to_end(DOWN)], table(), 60, table())
        self.ran([sixty, part(DOWN, value=1)], table(A), 60, TOO_LONG, table(A))
        self.ran([sixty, to_end(DOWN)], table(A), 60, TOO_LONG, table(A))

    def test_sixty_rounds_without_deeds(self):
        self.ran([to_end()], table(A), 0, TOO_LONG, table(A))
        self.ran([DOWN, to_end(), TOP], table(A, B), 1, TOO_LONG, table(A, B, cursor=1))
        self.ran([to_end(part(DOWN))], table(A, A, B, A), 2, TOO_LONG, table(A, A, B, A, cursor=2))
        for around in (lambda *p: loop(2, *p), to_end, part):
            self.ran([around(to_end(), TOP), DOWN], table(A), 0, TOO_LONG, table(A))
        self.ran([loop(9, to_end(loop(9)))], table(A), 0, TOO_LONG, table(A))

    def test_the_end_reached_in_the_60th_round(self):
        def rising(last):
            """Adds 1 a round till the value is the last one, then goes down: a deed each round."""
            return to_end(part(DOWN, value=last), part(add(0, 1), field=1, value=5))

        self.well([rising(58)], table((0, 5, 0)), 59, table((58, 5, 0), cursor=1))
        self.well([rising(59)], table((0, 5, 0)), 60, table((59, 5, 0), cursor=1))
        self.ran([rising(60)], table((0, 5, 0)), 60, TOO_LONG, table((60, 5, 0)))

    def test_rounds_are_counted_anew_each_time(self):
        pieces = [loop(3, to_end(add(0, 1), DOWN), TOP)]
        self.well(pieces, table(*[(0, 0, 0)] * 8), 51, table(*[(3, 0, 0)] * 8))

    def test_deeds_are_counted_anew_each_run(self):
        numbers = row(loop(6, *[TOP] * 10))
        self.assertEqual(ask_of(numbers, run(table(A)), run(table(A))), [[60, 0] + table(A)] * 2)

    def test_rows_of_endless_rounds_in_each_other(self):
        self.ran([to_end(loop(9, *[loop(9)] * 14))], table(A), 0, TOO_LONG, table(A))


class Refusals(unittest.TestCase):
    def refused(self, numbers):
        with self.subTest(numbers=numbers):
            program = row(write(0), DOWN)
            self.assertEqual(ask_of(program, run(numbers), TOLD), [[-1], program])
            self.assertEqual(ask(run(numbers), TOLD), [[-1], [0]])

    def taken(self, numbers):
        with self.subTest(numbers=numbers):
            self.assertEqual(ask(run(numbers)), [[0, 0] + numbers])

    def test_count(self):
        for count in range(9):
            self.taken(table(*[A] * count))
        self.refused(table(*[A] * 9))
        self.refused(table(*[A] * 12)[:40])
        for wrong in (-1, 9, HUGE, -HUGE):
            self.refused([wrong])
            self.refused([wrong, 0, 0])
            self.refused([wrong] + list(A) * 8 + [0, 0])

    def test_values(self):
        for place in (1, 3, 4, 6):
            for value in (-999, 999):
                numbers = table(A, B)
                numbers[place] = value
                self.taken(numbers)
            for wrong in (-1000, 1000, HUGE, -HUGE):
                numbers = table(A, B)
                numbers[place] = wrong
                self.refused(numbers)

    def test_cursor(self):
        for count in range(9):
            for cursor in range(count + 1):
                self.taken(table(*[A] * count, cursor=cursor))
            for wrong in (-1, count + 1, HUGE, -HUGE):
                self.refused(table(*[A] * count, cursor=wrong))

    def test_clipboard(self):
        for value in (-999, 999):
            self.taken(table(A, clipboard=value))
        for wrong in (-1000, 1000, HUGE, -HUGE):
            self.refused(table(A, clipboard=wrong))

    def test_too_short(self):
        for numbers in (table(), table(A), table(A, B, C, cursor=1, clipboard=2), table(*[A] * 8)):
            self.taken(numbers)
            for length in range(len(numbers)):
                self.refused(numbers[:length])

    def test_left_over(self):
        for numbers in (table(), table(A), table(A, B, C, cursor=1, clipboard=2), table(*[A] * 8)):
            for more in ([0], [1, 2], [HUGE], [0] * 3):
                self.refused(numbers + more)
        self.refused([0] * 40)


if __name__ == "__main__":
    unittest.main()
