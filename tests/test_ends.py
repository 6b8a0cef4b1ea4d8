"""The call ends."""

import itertools
import unittest

from helper import DELETE, DOUBLE, DOWN, ENDS, TOP, UP, add, ask, ask_of, copy, find, loop, part, paste, row, to_end
from helper import write

LESS = (DOWN, DELETE, find())
MORE = (UP, DOUBLE)
SAME = (write(0), add(1), copy(2), paste(0))


class EndsCase(unittest.TestCase):
    def ends(self, *pieces):
        return ask_of(row(*pieces), ENDS)[0]

    def nearer(self, *pieces):
        """A loop to the end of these pieces comes nearer."""
        self.assertEqual(self.ends(to_end(*pieces))[0], 1, pieces)

    def not_nearer(self, *pieces):
        self.assertEqual(self.ends(to_end(*pieces)), [0, 0], pieces)


class Nearer(EndsCase):
    def test_each_deed(self):
        for piece in LESS:
            self.nearer(piece)
        for piece in MORE + SAME + (TOP,):
            self.not_nearer(piece)
        self.not_nearer()

    def test_each_deeds_number(self):
        for piece in LESS:
            self.not_nearer(piece, UP)
            self.not_nearer(piece, DOUBLE)
            self.nearer(piece, UP, DOWN)
            self.nearer(piece, piece, UP)
            self.not_nearer(piece, piece, UP, UP)
        for piece in MORE:
            self.not_nearer(piece, DOWN)
            self.nearer(piece, DOWN, DOWN)
            self.not_nearer(piece, piece, DOWN, DOWN)
            self.nearer(piece, piece, DOWN, DOWN, DOWN)
        for piece in SAME:
            self.nearer(piece, DOWN)
            self.nearer(DOWN, piece)
            self.nearer(*[piece] * 14, DOWN)

    def test_top_can_not_be_told(self):
        self.not_nearer(TOP, DOWN)
        self.not_nearer(DOWN, TOP)
        self.not_nearer(*[DOWN] * 10, TOP)
        self.not_nearer(loop(1, TOP), *[DOWN] * 5)
        self.not_nearer(part(TOP), *[DOWN] * 5)
        self.not_nearer(part(DOWN, TOP, DOWN), *[DOWN] * 5)
        self.not_nearer(DOWN, loop(9, part(TOP, DOWN), DOWN))

    def test_top_outside_of_loops_to_the_end(self):
        self.assertEqual(self.ends(TOP, TOP), [1, 2])
        self.assertEqual(self.ends(loop(3, TOP), part(TOP), to_end(DOWN), TOP), [1, 13])

    def test_loops_of_rounds_count_each_round(self):
        for rounds in range(1, 10):
            self.nearer(loop(rounds, DOWN))
            self.nearer(loop(rounds, DOWN), *[UP] * (rounds - 1))
            self.not_nearer(loop(rounds, DOWN), *[UP] * rounds)
            self.not_nearer(loop(rounds, UP), *[DOWN] * rounds)
            self.nearer(loop(rounds, DOUBLE), *[DELETE] * (rounds + 1))
            self.not_nearer(loop(rounds, UP, DOWN))
            self.not_nearer(loop(rounds))

    def test_loops_of_rounds_in_each_other(self):
        self.nearer(loop(3, loop(3, DOWN)), *[UP] * 8)
        self.not_nearer(loop(3, loop(3, DOWN)), *[UP] * 9)
        self.nearer(loop(2, loop(5, DOWN), loop(9, UP), loop(5, DOWN)))
        self.not_nearer(loop(2, loop(5, DOWN), loop(9, UP), loop(4, DOWN)))

    def test_parts_below_at_and_above_zero(self):
        self.not_nearer(part(DOWN))
        self.not_nearer(part(DOWN, DOWN, DOWN))
        self.nearer(part(DOWN), DOWN)
        self.not_nearer(part(DOWN), UP)
        self.nearer(part(), DOWN)
        self.nearer(part(UP, DOWN), DOWN)
        self.not_nearer(part(UP, DOWN))
        self.not_nearer(part(UP), DOWN)
        self.nearer(part(UP), DOWN, DOWN)
        self.not_nearer(part(UP, DOUBLE), DOWN, DOWN)
        self.nearer(part(UP, DOUBLE), DOWN, DOWN, DOWN)

    def test_parts_in_loops_and_parts(self):
        self.not_nearer(loop(9, part(DOWN)))
        self.nearer(loop(9, part(DOWN), DOWN), *[UP] * 8)
        self.not_nearer(loop(9, part(DOWN), DOWN), *[UP] * 9)
        self.not_nearer(part(loop(9, DOWN)))
        self.not_nearer(part(loop(2, UP)), DOWN, DOWN)
        self.nearer(part(loop(2, UP)), DOWN, DOWN, DOWN)
        self.not_nearer(part(part(DOWN), UP), DOWN)
        self.nearer(part(part(DOWN), UP, DOWN), DOWN)
        self.not_nearer(loop(2, part(UP), DOWN))
        self.nearer(loop(2, part(UP), DOWN, DOWN))

    def test_loop_to_end_within_counts_nothing(self):
        self.assertEqual(self.ends(to_end(to_end(DOWN))), [0, 0])
        self.assertEqual(self.ends(to_end(to_end(DOWN), DOWN)), [1, 72])
        self.assertEqual(self.ends(to_end(to_end(DOWN, DOWN), UP)), [0, 0])
        self.assertEqual(self.ends(to_end(to_end(UP), DOWN)), [0, 1])
        self.assertEqual(self.ends(to_end(to_end(TOP), DOWN)), [0, 1])
        self.assertEqual(self.ends(to_end(loop(9, to_end(DOWN)))), [0, 0])
        self.assertEqual(self.ends(to_end(part(to_end(TOP)), DOWN)), [0, 2])


class FirstThatDoesNot(EndsCase):
    def test_numbers_count_all_pieces_ahead(self):
        self.assertEqual(self.ends(DOWN, UP, to_end(UP)), [0, 2])
        self.assertEqual(self.ends(to_end(write(0), DOWN), to_end(UP)), [0, 3])
        self.assertEqual(self.ends(loop(2, DOWN, part(UP, to_end()))), [0, 4])
        self.assertEqual(self.ends(*[DOWN] * 15, to_end()), [0, 15])

    def test_the_outer_one_first(self):
        self.assertEqual(self.ends(to_end(UP, to_end(UP))), [0, 0])
        self.assertEqual(self.ends(DOWN, to_end(to_end(UP), UP)), [0, 1])
        self.assertEqual(self.ends(to_end(DOWN, to_end(to_end(DOWN)))), [0, 2])
        self.assertEqual(self.ends(to_end(DOWN, to_end(DOWN, to_end()))), [0, 4])

    def test_the_first_of_several(self):
        good = to_end(DOWN)
        bad = to_end(UP)
        for which in itertools.product((good, bad), repeat=4):
            expected = [0, 2 * which.index(bad)] if bad in which else [1, 32]
            self.assertEqual(self.ends(*which), expected)

    def test_within_a_loop_or_part_ahead_of_one_behind(self):
        for around in (lambda *p: loop(2, *p), part):
            self.assertEqual(self.ends(around(to_end(UP)), to_end(UP)), [0, 1])
            self.assertEqual(self.ends(around(to_end(DOWN)), to_end(UP)), [0, 3])


class MostDeeds(EndsCase):
    def test_new_object_and_no_pieces(self):
        self.assertEqual(ask(ENDS), [[1, 0]])
        self.assertEqual(self.ends(), [1, 0])

    def test_each_deed_is_one(self):
        for piece in LESS + MORE + SAME + (TOP,):
            self.assertEqual(self.ends(piece), [1, 1])
            self.assertEqual(self.ends(piece, DOWN), [1, 2])
        self.assertEqual(self.ends(*[UP] * 16), [1, 16])

    def test_rows_without_pieces(self):
        self.assertEqual(self.ends(loop(9), part()), [1, 0])

    def test_loops_and_parts(self):
        self.assertEqual(self.ends(loop(9, UP, UP)), [1, 18])
        self.assertEqual(self.ends(loop(1, UP, UP)), [1, 2])
        self.assertEqual(self.ends(to_end(DOWN)), [1, 8])
        self.assertEqual(self.ends(to_end(write(0), DOWN)), [1, 16])
        self.assertEqual(self.ends(part(UP, UP, UP)), [1, 3])
        self.assertEqual(self.ends(part(DOWN), part(UP)), [1, 2])

    def test_within_each_other(self):
        self.assertEqual(self.ends(loop(2, UP, loop(3, DOWN, DOWN), UP), UP), [1, 17])
        self.assertEqual(self.ends(to_end(DOWN, to_end(DOWN, to_end(DOWN)))), [1, 8 * (1 + 8 * (1 + 8))])
        self.assertEqual(self.ends(loop(2, to_end(part(UP), DOWN, DOWN))), [1, 48])
        self.assertEqual(self.ends(part(loop(3, to_end(DOWN)), UP)), [1, 25])
        self.assertEqual(self.ends(loop(9, loop(9, loop(9, *[DOWN] * 13)))), [1, 9477])


if __name__ == "__main__":
    unittest.main()
