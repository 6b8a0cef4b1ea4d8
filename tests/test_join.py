"""The call join."""

import unittest

from helper import DELETE, DOUBLE, DOWN, ENDS, HUGE, TOLD, TOP, TOUCHES, UP, add, allowed, ask, ask_of, changed, clean
from helper import copy, find, join, loop, part, paste, program, recording, row, run, same, table, to_end, write

A = (1, 2, 3)
B = (4, 5, 6)

BEFORE = row(to_end(write(0, 7, 1), DOWN), copy(2))


class JoinCase(unittest.TestCase):
    def joined(self, first, second, accepted, behind):
        """The program of the first pieces, joined with the second ones, is the one that's told."""
        with self.subTest(first=first, second=second):
            given = ask(program(row(*first)), join(row(*second)), TOLD)
            count = ask(program(behind))[0][0]
            self.assertEqual(given[1:], [[count, accepted], behind])
            self.assertEqual(behind, row(*first, *second))

    def refused(self, numbers, number, before=BEFORE):
        asked = [TOLD, TOUCHES, ENDS, allowed(0, 1, 0), allowed(1, 0), run(table(A, B)), changed(table(A, B))]
        with self.subTest(numbers=numbers):
            given = ask_of(before, *asked, join(numbers), *asked)
            self.assertEqual(given[len(asked)], [number])
            self.assertEqual(given[:len(asked)], given[len(asked) + 1:])


class Accepted(JoinCase):
    def test_accepted(self):
        self.joined([DOWN], [UP, TOP], 1, [3, 0, 0, 0, 1, 0, 2])
        self.joined([write(0, 1, 2)], [loop(3, DOWN)], 1, [2, 0, 3, 0, 1, 2, 1, 3, 1, 0, 0])
        self.joined([to_end(DOWN)], [to_end(DELETE)], 1, [2, 2, 1, 0, 0, 2, 1, 0, 7])

    def test_a_loop_that_does_not_come_nearer(self):
        self.joined([DOWN], [to_end(UP)], 0, [2, 0, 0, 2, 1, 0, 1])
        self.joined([to_end()], [DOWN], 0, [2, 2, 0, 0, 0])
        self.joined([DOWN], [loop(2, to_end(part(DOWN)))], 0, [2, 0, 0, 1, 2, 1, 2, 1, 3, 0, 1, 1, 0, 0])

    def test_sixty_deeds_and_sixty_one(self):
        thirty = loop(6, *[TOP] * 5)
        self.joined([thirty], [thirty], 1, row(thirty, thirty))
        self.joined([loop(6, *[TOP] * 10)], [], 1, row(loop(6, *[TOP] * 10)))
        self.joined([loop(6, *[TOP] * 10)], [TOP], 0, row(loop(6, *[TOP] * 10), TOP))
        self.joined([], [loop(6, *[TOP] * 10), TOP], 0, row(loop(6, *[TOP] * 10), TOP))
        most = to_end(DOWN, *[write(0)] * 6)
        self.joined([most], [loop(2, TOP, TOP)], 1, row(most, loop(2, TOP, TOP)))
        self.joined([most], [loop(5, TOP)], 0, row(most, loop(5, TOP)))

    def test_what_was_not_accepted_is_the_program_all_the_same(self):
        self.assertEqual(
            ask_of(row(DOWN), join(row(to_end(UP))), TOLD, ENDS, join(row(TOP)), TOLD, ENDS),
            [[3, 0], row(DOWN, to_end(UP)), [0, 1], [4, 0], row(DOWN, to_end(UP), TOP), [0, 1]],
        )


class WithoutPieces(JoinCase):
    def test_to_one_without_pieces(self):
        self.joined([], [DOWN, loop(2, UP)], 1, [2, 0, 0, 1, 2, 1, 0, 1])
        self.assertEqual(ask(join(BEFORE), TOLD, ENDS), [[4, 1], BEFORE, [1, 17]])

    def test_of_one_without_pieces(self):
        self.joined([DOWN, loop(2, UP)], [], 1, [2, 0, 0, 1, 2, 1, 0, 1])
        self.joined([to_end(UP)], [], 0, [1, 2, 1, 0, 1])

    def test_both(self):
        self.joined([], [], 1, [0])
        self.assertEqual(ask(join([0]), TOLD), [[0, 1], [0]])


class NotAProgram(JoinCase):
    def test_refused(self):
        for numbers in (
            [], [1], [-1], [17], [HUGE], [-HUGE], [1, 4], [1, 0], [1, 0, 10], [1, 0, 3, 0, 0], [1, 0, 3, 3, 0, 0],
            [1, 0, 3, 0, 1000, 0], [1, 0, 3, 0, 0, -1000], [1, 1, 0, 0], [1, 1, 10, 0], [1, 3, 3, 0, 0], [0, 0],
            [1, 0, 0, 0], row(DOWN, UP)[:-1], row(*[DOWN] * 17), row(loop(2, loop(2, loop(2, loop(2))))),
            [1] + [2, 1] * 58 + [2, 0], [0] * 120, [HUGE] * 120,
        ):
            self.refused(numbers, -1)
            self.refused(numbers, -1, before=[0])
            self.refused(numbers, -1, before=row(*[DOWN] * 16))

    def test_same_lists_as_program_refuses(self):
        sample = row(write(0, 7, 1), loop(2, to_end(DOWN, part(add(1), field=2)), copy(1)), find(0))
        for length in range(len(sample)):
            self.refused(sample[:length], -1)


class TooManyPieces(JoinCase):
    def test_sixteen_together(self):
        for count in range(17):
            self.joined([DOWN] * count, [UP] * (16 - count), 1, row(*[DOWN] * count, *[UP] * (16 - count)))

    def test_seventeen_together(self):
        for count in range(1, 17):
            self.refused(row(*[UP] * (17 - count)), -6, before=row(*[DOWN] * count))
        self.refused(row(*[UP] * 16), -6, before=row(*[DOWN] * 16))

    def test_those_within_others_count(self):
        for around in (lambda *p: loop(2, *p), to_end, part):
            inner = around(around(DOWN), *[UP] * 5)
            self.assertEqual(ask_of(row(inner), join(row(inner)), TOLD)[1], row(inner, inner))
            self.assertEqual(ask_of(row(inner), join(row(inner)))[0][0], 16)
            self.refused(row(inner, TOP), -6, before=row(inner))
            self.refused(row(inner), -6, before=row(inner, TOP))
            self.refused(row(DOWN), -6, before=row(around(*[DOWN] * 15)))

    def test_depth_is_not_added(self):
        deep = to_end(loop(2, part(DOWN)))
        self.assertEqual(ask_of(row(deep), join(row(deep)), TOLD), [[8, 0], row(deep, deep)])

    def test_a_refused_one_can_be_followed_by_a_smaller(self):
        self.assertEqual(
            ask_of(row(*[DOWN] * 15), join(row(UP, UP)), join(row(UP)), join(row(UP)), join([0]), TOLD),
            [[-6], [16, 1], [-6], [16, 1], row(*[DOWN] * 15, UP)],
        )


class BehindAJoin(unittest.TestCase):
    def test_all_calls_speak_of_all_pieces(self):
        first = row(to_end(write(0, 7, 1), DOWN))
        second = row(loop(2, UP), DELETE, paste(1), copy(2), part(add(1, 1, 1), field=2))
        both = row(to_end(write(0, 7, 1), DOWN), loop(2, UP), DELETE, paste(1), copy(2), part(add(1, 1, 1), field=2))
        asked = [
            TOLD, TOUCHES, ENDS, allowed(0, 1, 0), allowed(1, 1, 0), allowed(1, 2, 1, 0), run(table(A, B)),
            run(table(A, B, (7, 8, 1), clipboard=5)), changed(table(A, B)), changed(table()), join(row(DOWN)), TOLD,
        ]
        behind_join = ask_of(first, join(second), *asked)
        self.assertEqual(behind_join[0], [10, 1])
        self.assertEqual(behind_join[1:], ask_of(both, *asked))
        self.assertEqual(
            behind_join[1:8],
            [both, [2, 0, 1, 2, 1, 2, 1, 1], [1, 22], [0, 5], [0, 6], [1],
             [9, 0] + table((8, 0, 6), clipboard=6)],
        )

    def test_a_paste_behind_the_copy_of_the_first(self):
        self.assertEqual(ask_of(row(copy(0)), join(row(paste(1))), TOUCHES)[1], [1, 1, 1, 0, 0, 0])
        self.assertEqual(ask_of(row(part(copy(0))), join(row(paste(1))), TOUCHES)[1], [1, 1, 1, 0, 0, 1])

    def test_clean_and_same_do_not_speak_of_the_program(self):
        asked = [clean(recording(DOWN, UP)), same(recording(DOWN, DOWN), table(A))]
        self.assertEqual(ask_of(row(DOUBLE), join(row(UP)), *asked)[1:], ask(*asked))

    def test_program_behind_a_join_begins_anew(self):
        self.assertEqual(
            ask_of(row(DOWN), join(row(UP)), program(row(TOP)), TOLD, join(row(DELETE)), TOLD),
            [[2, 1], [1, 0], row(TOP), [2, 1], row(TOP, DELETE)],
        )

    def test_one_behind_another(self):
        given = ask(*[join(row(DOWN)) for count in range(18)], TOLD)
        self.assertEqual(given, [[count + 1, 1] for count in range(16)] + [[-6], [-6], row(*[DOWN] * 16)])


if __name__ == "__main__":
    unittest.main()
