"""The call program: what is a program, and what is refused."""

import itertools
import unittest

from helper import (
    DELETE, DOUBLE, DOWN, HUGE, TOLD, TOP, UP,
    add, ask, copy, deed, find, loop, part, paste, program, row, to_end, write,
)

BEFORE = row(DOWN, UP)


class ProgramCase(unittest.TestCase):
    def taken(self, numbers, pieces, depth):
        with self.subTest(numbers=numbers):
            self.assertEqual(
                ask(program(BEFORE), program(numbers), TOLD),
                [[2, 0], [pieces, depth], numbers],
            )

    def refused(self, numbers):
        with self.subTest(numbers=numbers):
            self.assertEqual(
                ask(program(BEFORE), program(numbers), TOLD),
                [[2, 0], [-1], BEFORE],
            )


class Pieces(ProgramCase):
    def test_no_pieces(self):
        self.taken([0], 0, 0)

    def test_each_deed_alone(self):
        for piece in (DOWN, UP, TOP, DELETE, DOUBLE, copy(2), paste(1), write(0), add(1), find(2)):
            self.taken(row(piece), 1, 0)

    def test_each_deed_within_others(self):
        for piece in (DOWN, UP, TOP, DELETE, DOUBLE, copy(2), paste(1), write(0), add(1), find(2)):
            for around in (lambda *p: loop(2, *p), to_end, part):
                self.taken(row(around(piece)), 2, 1)
                self.taken(row(DOWN, around(UP, piece, UP), UP), 6, 1)

    def test_which_deeds_have_a_field_a_number_and_a_step(self):
        for number, more in ((0, 0), (1, 0), (2, 0), (3, 3), (4, 3), (5, 1), (6, 1), (7, 0), (8, 0), (9, 3)):
            for count in range(5):
                numbers = [1, 0, number] + [1] * count
                if count == more:
                    self.taken(numbers, 1, 0)
                else:
                    self.refused(numbers)

    def test_rows_without_pieces(self):
        for piece in (loop(1), to_end(), part()):
            self.taken(row(piece), 1, 1)
        self.taken(row(loop(1, to_end(part()))), 3, 3)

    def test_each_kind_within_each(self):
        arounds = (lambda *p: loop(3, *p), to_end, part)
        for outer, middle, inner in itertools.product(arounds, repeat=3):
            self.taken(row(outer(DOWN, middle(UP), inner(TOP)), DOWN), 7, 2)
            self.taken(row(outer(middle(inner(TOP), UP), DOWN)), 6, 3)

    def test_depth_is_that_of_the_deepest(self):
        self.taken(row(to_end(), loop(2, part()), part()), 4, 2)
        self.taken(row(loop(2, part(to_end())), to_end()), 4, 3)


class Depth(ProgramCase):
    def test_three_and_four_deep(self):
        for around in (lambda *p: loop(2, *p), to_end, part):
            self.taken(row(around(around(around()))), 3, 3)
            self.taken(row(around(around(around(DOWN)))), 4, 3)
            self.refused(row(around(around(around(around())))))
            self.refused(row(around(around(around(around(DOWN))))))
            self.refused(row(around(around(DOWN, around(UP, around())))))

    def test_sixty_deep(self):
        for count in (1, 2, 16):
            self.refused([count] + [2, count] * 59)
        self.refused([1] + [2, 1] * 58 + [2, 0])
        self.refused([1, 2] * 60)


class Counts(ProgramCase):
    def test_sixteen_and_seventeen_side_by_side(self):
        self.taken(row(*[DOWN] * 15), 15, 0)
        self.taken(row(*[DOWN] * 16), 16, 0)
        self.refused(row(*[DOWN] * 17))
        self.taken(row(*[write(0)] * 16), 16, 0)
        self.refused(row(*[write(0)] * 17))

    def test_sixteen_and_seventeen_with_those_within(self):
        for around in (lambda *p: loop(9, *p), to_end, part):
            self.taken(row(around(*[DOWN] * 15)), 16, 1)
            self.refused(row(around(*[DOWN] * 16)))
            self.taken(row(*[around()] * 16), 16, 1)
            self.refused(row(*[around()] * 17))
            self.taken(row(DOWN, around(UP, around(*[UP] * 5), UP), *[DOWN] * 6), 16, 2)
            self.refused(row(DOWN, around(UP, around(*[UP] * 5), UP), *[DOWN] * 7))
            self.refused(row(DOWN, around(UP, around(*[UP] * 6), UP), *[DOWN] * 6))

    def test_counts_that_are_off(self):
        self.refused([])
        self.refused([-1])
        self.refused([1])
        self.refused([17] + [0, 0] * 17)
        self.refused([16] + [0, 0] * 15)
        self.refused([-1, 0, 0])
        for head in ([1, 2], [2], [3, 0, 0]):
            self.taken([1] + head + [1, 0, 0], 2, 1)
            self.refused([1] + head + [-1])
            self.refused([1] + head + [-1, 0, 0])
            self.refused([1] + head + [0, 0, 0])
            self.refused([1] + head + [2, 0, 0])
            self.refused([1] + head + [17] + [0, 0] * 17)


class Ends(ProgramCase):
    SAMPLE = row(write(0, 7, 1), loop(2, to_end(DOWN, part(add(1), field=2)), copy(1)), find(0))

    def test_too_short(self):
        self.taken(self.SAMPLE, 8, 3)
        for length in range(len(self.SAMPLE)):
            self.refused(self.SAMPLE[:length])

    def test_left_over(self):
        for more in ([0], [0, 0], [1], [-1], [HUGE], [0] * 60):
            self.refused(self.SAMPLE + more)
            self.refused([0] + more)

    def test_the_longest_list(self):
        self.refused([0] * 120)
        self.refused([16] + write(0) * 16 + [0] * 39)
        self.refused([1, 3, 0, 0] * 30)


class Ranges(ProgramCase):
    def ranged(self, before, behind, low, high, inner=None):
        """The place between before and behind takes just what's from low to high."""
        for number in (low, low + 1, high - 1, high):
            if low <= number <= high:
                numbers = before + [number] + behind
                self.assertGreaterEqual(ask(program(numbers))[0][0], 1, numbers)
                self.assertEqual(ask(program(numbers), TOLD)[1], numbers)
        for number in (low - 1, high + 1, low - 1000, high + 1000, -HUGE, HUGE, 1 - HUGE, HUGE - 1, 2 ** 32, -2 ** 32):
            self.refused(before + [number] + behind)

    def test_deed(self):
        for number in range(10):
            more = {3: [0] * 3, 4: [0] * 3, 9: [0] * 3, 5: [0], 6: [0]}.get(number, [])
            self.taken([1, 0, number] + more, 1, 0)
        for number in (-1, 10, 11, -HUGE, HUGE):
            for count in range(4):
                self.refused([1, 0, number] + [0] * count)

    def test_piece(self):
        self.taken([1, 0, 0], 1, 0)
        self.taken([1, 1, 1, 0], 1, 1)
        self.taken([1, 2, 0], 1, 1)
        self.taken([1, 3, 0, 0, 0], 1, 1)
        for number in (-1, 4, 5, -HUGE, HUGE):
            for count in range(5):
                self.refused([1, number] + [0] * count)
                self.refused([1, number] + [1] * count)

    def test_field(self):
        for number in (3, 4, 9):
            self.ranged([1, 0, number], [0, 0], 0, 2)
        for number in (5, 6):
            self.ranged([1, 0, number], [], 0, 2)
        self.ranged([1, 3], [0, 0], 0, 2)

    def test_value_and_step(self):
        for number in (3, 4, 9):
            self.ranged([1, 0, number, 0], [0], -999, 999)
            self.ranged([1, 0, number, 0, 0], [], -999, 999)
        self.ranged([1, 3, 0], [0], -999, 999)

    def test_rounds(self):
        self.ranged([1, 1], [0], 1, 9)
        self.ranged([1, 1], [1, 0, 0], 1, 9)

    def test_ranges_hold_within_others(self):
        for before in ([1, 1, 2, 1], [1, 2, 1], [1, 3, 0, 0, 1]):
            self.ranged(before + [0, 3], [0, 0], 0, 2)
            self.ranged(before + [0, 4, 0], [0], -999, 999)
            self.ranged(before + [0, 9, 0, 0], [], -999, 999)
            self.ranged(before + [1], [0], 1, 9)
            self.ranged(before + [3], [0, 0], 0, 2)
            self.ranged(before + [3, 0], [0], -999, 999)

    def test_huge_in_every_place(self):
        sample = Ends.SAMPLE
        for place in range(len(sample)):
            for number in (-HUGE, HUGE):
                self.refused(sample[:place] + [number] + sample[place + 1:])


class AllSmallLists(unittest.TestCase):
    """Every short list of small numbers is taken just if the document's words make it one."""

    ALPHABET = (-1, 0, 1, 2, 3, 4)
    LONGEST = 6

    def rows_of(self, length, depth):
        for count in range(5):
            for pieces in self.pieces_of(count, length - 1, depth):
                yield (count,) + pieces

    def pieces_of(self, count, length, depth):
        if count == 0:
            if length == 0:
                yield ()
            return
        for first in range(2, length + 1):
            for others in self.pieces_of(count - 1, length - first, depth):
                for piece in self.one_piece(first, depth):
                    yield piece + others

    def one_piece(self, length, depth):
        if length == 2:
            for number in (0, 1, 2):
                yield (0, number)
        if length == 5:
            for number, field, value, step in itertools.product((3, 4), (0, 1, 2), self.ALPHABET, self.ALPHABET):
                yield (0, number, field, value, step)
        if depth == 3:
            return
        for inner in self.rows_of(length - 2, depth + 1):
            for rounds in (1, 2, 3, 4):
                yield (1, rounds) + inner
        for inner in self.rows_of(length - 1, depth + 1):
            yield (2,) + inner
        for inner in self.rows_of(length - 3, depth + 1):
            for field, value in itertools.product((0, 1, 2), self.ALPHABET):
                yield (3, field, value) + inner

    def test_all(self):
        for length in range(self.LONGEST + 1):
            right = set(self.rows_of(length, 0))
            for numbers in itertools.product(self.ALPHABET, repeat=length):
                taken = ask(program(numbers))[0] != [-1]
                self.assertEqual(taken, numbers in right, numbers)


if __name__ == "__main__":
    unittest.main()
