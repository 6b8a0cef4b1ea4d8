"""The call clean: which neighbours become fewer, and how a recording is cleaned."""

import itertools
import unittest

from helper import DELETE, DOUBLE, DOWN, HUGE, TOLD, TOP, UP, add, ask, ask_of, clean, copy, find, paste, recording
from helper import row, write


class CleanCase(unittest.TestCase):
    def cleans(self, deeds, left):
        """The deeds, cleaned, are those that are left."""
        with self.subTest(deeds=deeds):
            answer = [len(deeds) - len(left)] + recording(*left)
            self.assertEqual(ask(clean(recording(*deeds))), [answer])

    def stays(self, *deeds):
        self.cleans(deeds, deeds)


class Pairs(CleanCase):
    def test_to_nothing(self):
        self.cleans([DOWN, UP], [])
        self.cleans([UP, DOWN], [])
        self.cleans([DOUBLE, DELETE], [])

    def test_to_top(self):
        for first in (DOWN, UP, find(2, 5), TOP):
            self.cleans([first, TOP], [TOP])

    def test_copies(self):
        for first, second in itertools.product((0, 1, 2), repeat=2):
            self.cleans([copy(first), copy(second)], [copy(second)])

    def test_the_second_of_one_field(self):
        for field in (0, 1, 2):
            for first in (write(field, 3), add(field, 3), paste(field)):
                for second in (write(field, 8), paste(field)):
                    self.cleans([first, second], [second])
            self.cleans([write(field, 3), write(field, 3)], [write(field, 3)])
            self.cleans([write(field, 3), write(field, -3)], [write(field, -3)])

    def test_adds_together(self):
        for field in (0, 1, 2):
            self.cleans([add(field, 3), add(field, 8)], [add(field, 11)])
            self.cleans([add(field, -3), add(field, 1)], [add(field, -2)])
            self.cleans([add(field, 0), add(field, 1)], [add(field, 1)])

    def test_adds_that_are_0_together(self):
        for field in (0, 1, 2):
            for value in (3, -3, 999, -999, 0):
                self.cleans([add(field, value), add(field, -value)], [])
        self.stays(add(0, 0))
        self.stays(add(0, 0), add(1, 0))

    def test_write_and_add_together(self):
        for field in (0, 1, 2):
            self.cleans([write(field, 3), add(field, 8)], [write(field, 11)])
            self.cleans([write(field, 3), add(field, -8)], [write(field, -5)])
            self.cleans([write(field, 3), add(field, -3)], [write(field, 0)])
            self.cleans([write(field, 0), add(field, 0)], [write(field, 0)])

    def test_paste_and_add_stay(self):
        for field in (0, 1, 2):
            self.stays(paste(field), add(field, 3))

    def test_another_field_stays(self):
        for first, second in itertools.permutations((0, 1, 2), 2):
            for one in (write(first), add(first), paste(first)):
                for other in (write(second), add(second), add(second, -5), paste(second)):
                    self.stays(one, other)

    def test_no_others_become_fewer(self):
        """Every two deeds of all kinds, with the same field and with another one."""
        fewer = {
            ("down", "up"), ("up", "down"), ("double", "delete"), ("down", "top"), ("up", "top"), ("find", "top"),
            ("top", "top"), ("copy", "copy"),
        }
        fewer_of_one_field = {
            ("write", "write"), ("add", "write"), ("paste", "write"), ("write", "paste"), ("add", "paste"),
            ("paste", "paste"), ("add", "add"), ("write", "add"),
        }
        names = ("down", "up", "top", "write", "add", "copy", "paste", "delete", "double", "find")
        deeds = [
            lambda f: DOWN, lambda f: UP, lambda f: TOP, lambda f: write(f, 4), lambda f: add(f, 4), copy, paste,
            lambda f: DELETE, lambda f: DOUBLE, lambda f: find(f, 4),
        ]
        kinds = list(zip(names, deeds))
        for (name, one), (other_name, other) in itertools.product(kinds, repeat=2):
            for first, second in itertools.product((0, 1, 2), repeat=2):
                pair = (name, other_name)
                count = ask(clean(recording(one(first), other(second))))[0][0]
                becomes = pair in fewer or (pair in fewer_of_one_field and first == second)
                self.assertEqual(count > 0, becomes, (pair, first, second))
                if not becomes:
                    self.stays(one(first), other(second))


class Sums(CleanCase):
    def beyond(self, deeds, *expected):
        with self.subTest(deeds=deeds):
            self.assertEqual(ask(clean(recording(*deeds))), [list(expected)])

    def test_beyond_999(self):
        self.beyond([add(0, 999), add(0, 1)], 1, 1, 4, 0, 1000)
        self.beyond([add(1, -999), add(1, -999)], 1, 1, 4, 1, -1998)
        self.beyond([write(2, 999), add(2, 999)], 1, 1, 3, 2, 1998)
        self.beyond([write(2, -999), add(2, -1)], 1, 1, 3, 2, -1000)

    def test_beyond_and_back(self):
        self.beyond([add(0, 999), add(0, 999), add(0, -999)], 2, 1, 4, 0, 999)
        self.beyond([add(0, 999), add(0, 999), add(0, -999), add(0, -999)], 4, 0)
        self.beyond([add(0, 999), add(0, 999), write(0, 1)], 2, 1, 3, 0, 1)

    def test_twenty(self):
        self.beyond([add(0, 999)] * 20, 19, 1, 4, 0, 19980)
        self.beyond([write(0, -999)] + [add(0, -999)] * 19, 19, 1, 3, 0, -19980)


class Cleaning(CleanCase):
    def test_no_deeds_and_one(self):
        self.cleans([], [])
        for deed in (DOWN, UP, TOP, write(0), add(0, 0), copy(), paste(), DELETE, DOUBLE, find()):
            self.stays(deed)

    def test_without_slips(self):
        self.stays(DOWN, DOWN)
        self.stays(UP, UP, DELETE, DOUBLE, TOP, DOWN, copy(0), paste(1), copy(2), find(0), write(0), DOWN, add(0))

    def test_only_neighbours(self):
        self.stays(DOWN, write(0), UP)
        self.stays(write(0), write(1), write(0))
        self.stays(copy(0), paste(0), copy(1))
        self.stays(DOUBLE, DOWN, DELETE)

    def test_slips_that_arise_by_a_slip_before_them(self):
        self.cleans([DOWN, DOWN, UP, UP], [])
        self.cleans([DOUBLE, DOWN, UP, DELETE], [])
        self.cleans([write(0, 1), DOWN, UP, add(0, 2)], [write(0, 3)])
        self.cleans([add(0, 1), add(1, 2), add(1, -2), add(0, 3)], [add(0, 4)])
        self.cleans([add(0, 1), add(1, 2), add(1, -2), add(0, -1), DOWN], [DOWN])
        self.cleans([copy(0), DOUBLE, UP, DOWN, DELETE, copy(1)], [copy(1)])
        self.cleans([DOWN, DOWN, DOWN, TOP], [TOP])
        self.cleans([find(0, 1), DOWN, UP, UP, TOP], [TOP])
        self.cleans([DOWN, write(0, 3), add(0, -3), write(0, 4), UP], [DOWN, write(0, 4), UP])
        self.cleans([paste(0), add(0, 5), add(0, -5), write(0, 2)], [write(0, 2)])

    def test_the_first_two_first(self):
        self.cleans([DOWN, UP, DOWN], [DOWN])
        self.cleans([DOWN, UP, TOP], [TOP])
        self.cleans([UP, DOWN, UP, DOWN, UP], [UP])
        self.cleans([add(0, 1), add(0, -1), add(0, 1), copy(0)], [add(0, 1), copy(0)])
        self.cleans([paste(0), add(0, 1), write(0, 2), add(0, 3)], [write(0, 5)])

    def test_two_pairs_side_by_side(self):
        self.cleans([write(0, 1), write(0, 2), write(1, 3), write(1, 4)], [write(0, 2), write(1, 4)])
        self.cleans([write(0, 1), write(1, 2), write(1, 3), write(0, 4)], [write(0, 1), write(1, 3), write(0, 4)])

    def test_behind_neighbours_that_stay(self):
        self.cleans([DELETE, DOWN, copy(0), copy(1), TOP, TOP], [DELETE, DOWN, copy(1), TOP])

    def test_example(self):
        self.assertEqual(ask(clean([7, 0, 1, 3, 0, 5, 4, 0, 2, 0, 2, 2])), [[5, 2, 3, 0, 7, 2]])

    def test_an_add_of_0_may_be_left(self):
        self.cleans([add(0, 5), add(1, 0)], [add(0, 5), add(1, 0)])
        self.cleans([add(0, 0), add(0, 0)], [])


class Counts(CleanCase):
    def test_twenty(self):
        self.cleans([DOWN] * 20, [DOWN] * 20)
        self.cleans([DOWN] * 10 + [UP] * 10, [])
        self.cleans([write(0, -999), write(1, 999)] * 10, [write(0, -999), write(1, 999)] * 10)
        self.cleans([TOP] * 20, [TOP])

    def test_twenty_one(self):
        for deed in (DOWN, copy(0), TOP, write(0)):
            self.assertEqual(ask(clean(recording(*[deed] * 21))), [[-1]])


class Refusals(unittest.TestCase):
    SAMPLE = recording(DOWN, write(0, 7), find(2, -999), copy(1), DELETE, add(1, 999), paste(2), DOUBLE)

    def refused(self, numbers):
        with self.subTest(numbers=numbers):
            program = row(DOWN, write(0))
            self.assertEqual(ask_of(program, clean(numbers), TOLD), [[-1], program])
            self.assertEqual(ask(clean(numbers)), [[-1]])

    def test_too_short(self):
        self.assertEqual(ask(clean(self.SAMPLE)), [[0] + self.SAMPLE])
        for length in range(len(self.SAMPLE)):
            self.refused(self.SAMPLE[:length])

    def test_left_over(self):
        for more in ([0], [1], [HUGE], [0, 0, 0]):
            self.refused(self.SAMPLE + more)
            self.refused([0] + more)

    def test_counts(self):
        for wrong in (-1, 21, 80, HUGE, -HUGE):
            self.refused([wrong])
            self.refused([wrong] + [0] * 21)
            self.refused([wrong] + [0] * 79)
        self.refused([0] * 80)
        self.refused([20] + [0] * 79)

    def test_kinds(self):
        for wrong in (-1, 10, 11, HUGE, -HUGE):
            for count in range(4):
                self.refused([1, wrong] + [0] * count)

    def test_which_have_a_field_and_a_number(self):
        for number, more in ((0, 0), (1, 0), (2, 0), (3, 2), (4, 2), (5, 1), (6, 1), (7, 0), (8, 0), (9, 2)):
            for count in range(5):
                numbers = [1, number] + [1] * count
                if count == more:
                    self.assertEqual(ask(clean(numbers)), [[0] + numbers])
                else:
                    self.refused(numbers)

    def test_fields_and_values(self):
        for number in (3, 4, 9):
            for field in (-1, 3, HUGE, -HUGE):
                self.refused([1, number, field, 0])
            for value in (-999, 999):
                self.assertEqual(ask(clean([1, number, 2, value])), [[0, 1, number, 2, value]])
            for value in (-1000, 1000, HUGE, -HUGE):
                self.refused([1, number, 0, value])
        for number in (5, 6):
            for field in (-1, 3, HUGE, -HUGE):
                self.refused([1, number, field])

    def test_a_program_is_not_a_recording(self):
        self.refused(row(write(0, 7, 1), DOWN))
        self.refused([2, 0, 0, 0, 1])


if __name__ == "__main__":
    unittest.main()
