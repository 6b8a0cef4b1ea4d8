"""The call touches."""

import itertools
import unittest

from helper import DELETE, DOUBLE, DOWN, TOP, TOUCHES, UP, add, ask, ask_of, copy, find, loop, part, paste, program
from helper import row, to_end, write


def wrap_loop(*pieces):
    return loop(2, *pieces)


class TouchesCase(unittest.TestCase):
    def touched(self, pieces, written, read, rows, clipboard):
        expected = [len(written), *written, len(read), *read, rows, clipboard]
        numbers = row(*pieces)
        with self.subTest(numbers=numbers):
            self.assertEqual(ask_of(numbers, TOUCHES), [expected])


class Fields(TouchesCase):
    def test_new_object_and_no_pieces(self):
        self.assertEqual(ask(TOUCHES), [[0, 0, 0, 0]])
        self.touched([], [], [], 0, 0)

    def test_each_deed(self):
        for field in (0, 1, 2):
            self.touched([write(field)], [field], [], 0, 0)
            self.touched([add(field)], [field], [field], 0, 0)
            self.touched([copy(field)], [], [field], 0, 0)
            self.touched([paste(field)], [field], [], 0, 1)
            self.touched([find(field)], [], [field], 0, 0)
        for piece in (DOWN, UP, TOP):
            self.touched([piece], [], [], 0, 0)
        for piece in (DELETE, DOUBLE):
            self.touched([piece], [], [], 1, 0)

    def test_values_and_steps_are_no_fields(self):
        self.touched([write(1, 2, 0)], [1], [], 0, 0)
        self.touched([find(1, 2, 0)], [], [1], 0, 0)
        self.touched([part(field=1, value=2)], [], [1], 0, 0)
        self.touched([add(2, 0, 1)], [2], [2], 0, 0)

    def test_parts_read_and_loops_do_not(self):
        for field in (0, 1, 2):
            self.touched([part(field=field)], [], [field], 0, 0)
            self.touched([part(DOWN, field=field)], [], [field], 0, 0)
        self.touched([loop(2)], [], [], 0, 0)
        self.touched([loop(1, DOWN), to_end(DOWN), to_end()], [], [], 0, 0)

    def test_rising_and_each_once(self):
        for fields in itertools.product((0, 1, 2), repeat=3):
            once = sorted(set(fields))
            self.touched([write(field) for field in fields], once, [], 0, 0)
            self.touched([find(field) for field in fields], [], once, 0, 0)
            self.touched([add(field) for field in fields], once, once, 0, 0)
            self.touched([part(field=field) for field in fields], [], once, 0, 0)
        self.touched([write(2), add(0), copy(1), paste(2)], [0, 2], [0, 1], 0, 0)
        self.touched([find(2), part(field=0), copy(2), add(1)], [1], [0, 1, 2], 0, 0)
        self.touched([copy(2), paste(0), write(0), add(0)], [0], [0, 2], 0, 0)

    def test_those_within_others(self):
        for around in (wrap_loop, to_end):
            self.touched([around(write(2), around(add(0)))], [0, 2], [0], 0, 0)
            self.touched([around(around(around(find(1))))], [], [1], 0, 0)
        self.touched([part(write(2), part(add(0), field=2), field=1)], [0, 2], [0, 1, 2], 0, 0)
        self.touched([part(copy(1), paste(0), field=2)], [0], [1, 2], 0, 0)


class Rows(TouchesCase):
    def test_within_others(self):
        for piece in (DELETE, DOUBLE):
            for around in (wrap_loop, to_end, lambda *p: part(*p, field=0)):
                read = [0] if around(DOWN)[0] == 3 else []
                self.touched([DOWN, around(DOWN, piece), UP], [], read, 1, 0)
                self.touched([around(around(around(piece)))], [], read, 1, 0)
        self.touched([DELETE, DOUBLE, DELETE], [], [], 1, 0)


class OldClipboard(unittest.TestCase):
    def old(self, *pieces):
        return ask_of(row(*pieces), TOUCHES)[0][-1]

    def may(self, *pieces):
        self.assertEqual(self.old(*pieces), 1, pieces)

    def may_not(self, *pieces):
        self.assertEqual(self.old(*pieces), 0, pieces)

    def test_without_paste(self):
        self.may_not()
        self.may_not(copy())
        self.may_not(loop(2, copy()), to_end(copy()), part(copy()))

    def test_same_row(self):
        self.may(paste())
        self.may(paste(), copy())
        self.may_not(copy(), paste())
        self.may_not(copy(), DOWN, write(0), paste(), paste())
        self.may(paste(), copy(), paste())
        self.may_not(copy(1), paste(2))

    def test_same_row_within(self):
        for around in (wrap_loop, to_end, part):
            self.may(around(paste()))
            self.may(around(paste(), copy()))
            self.may_not(around(copy(), paste()))
            self.may_not(copy(), around(paste()))
            self.may_not(copy(), around(around(around(paste()))))
            self.may(around(paste()), copy())
            self.may_not(around(copy(), around(paste())))
            self.may_not(around(copy(), DOWN), copy(), paste())

    def test_behind_a_loop_of_rounds(self):
        for rounds in (1, 9):
            self.may_not(loop(rounds, copy()), paste())
            self.may_not(loop(rounds, DOWN, copy(), UP), DOWN, paste())
            self.may_not(loop(rounds, loop(rounds, loop(rounds, copy()))), paste())
            self.may_not(loop(rounds, loop(rounds, copy()), paste()))
            self.may_not(loop(rounds, copy()), part(to_end(paste())))
            self.may(loop(rounds, paste(), copy()), paste())
            self.may(loop(rounds, paste(), loop(rounds, copy())))
            self.may(loop(rounds), paste())

    def test_behind_a_loop_to_the_end_or_a_part(self):
        for around in (to_end, part):
            self.may(around(copy()), paste())
            self.may(around(copy(), paste()), paste())
            self.may(around(loop(9, copy())), paste())
            self.may(loop(9, around(copy())), paste())
            self.may(loop(9, around(copy()), paste()))
            self.may(around(around(copy()), paste()))
            self.may(around(copy()), around(paste()))
            self.may(around(copy()), loop(2, paste()))
            self.may_not(around(loop(2, copy()), paste()))
            self.may_not(around(loop(2, copy()), part(to_end(paste()))))
            self.may_not(around(around(copy()), copy(), paste()))
            self.may_not(copy(), around(copy()), paste())

    def test_part_and_loop_to_end_mixed(self):
        self.may(to_end(part(copy()), paste()))
        self.may(part(to_end(copy()), paste()))
        self.may_not(loop(3, to_end(part(copy(), paste()))))
        self.may(loop(3, to_end(part(copy(), paste())), paste()))
        self.may(part(copy(), value=7), part(paste(), value=7))


class OldClipboardOfAllSmallPrograms(unittest.TestCase):
    """The answer agrees with walking every way that a program may go.

    A loop to the end has no round or one, and a part is passed over or done;
    each time anew.
    """

    def forests(self, size, depth):
        if size == 0:
            yield ()
            return
        for first in range(1, size + 1):
            for others in self.forests(size - first, depth):
                for tree in self.trees(first, depth):
                    yield (tree,) + others

    def trees(self, size, depth):
        if size == 1:
            yield "copy"
            yield "paste"
        if depth < 3 and size > 1:
            for inner in self.forests(size - 1, depth + 1):
                for kind in ("loop", "to_end", "part"):
                    yield (kind, inner)

    def numbers(self, forest):
        pieces = []
        for tree in forest:
            if tree == "copy":
                pieces.append(copy())
            elif tree == "paste":
                pieces.append(paste())
            else:
                kind, inner = tree
                head = {"loop": [1, 2], "to_end": [2], "part": [3, 0, 1]}[kind]
                pieces.append(head + self.numbers(inner))
        return row(*pieces)

    def ways(self, forest, states):
        """From the states (copied, read old) ahead of the row, all those behind it."""
        for tree in forest:
            if tree == "copy":
                states = {(True, old) for copied, old in states}
            elif tree == "paste":
                states = {(copied, old or not copied) for copied, old in states}
            elif tree[0] == "loop":
                states = self.ways(tree[1], self.ways(tree[1], states))
            else:
                states = states | self.ways(tree[1], states)
        return states

    def test_all(self):
        for size in range(6):
            for forest in self.forests(size, 0):
                expected = any(old for copied, old in self.ways(forest, {(False, False)}))
                given = ask(program(self.numbers(forest)), TOUCHES)[1][-1]
                self.assertEqual(given, 1 if expected else 0, forest)


if __name__ == "__main__":
    unittest.main()
