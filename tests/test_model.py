"""Many programs, recordings and tables: the answers agree with the model, and with each other."""

import itertools
import random
import unittest

from helper import ENDS, TOUCHES, ask, ask_of, changed, clean, join, program, run, same
from model import (
    WITH_FIELD, WITH_VALUE, clean_model, program_numbers, recording_numbers, run_model, table_numbers,
)


class Maker:
    """Makes the same things each time, as it begins with a number that's given."""

    def __init__(self, seed):
        self.random = random.Random(seed)

    def value(self):
        chance = self.random.random()
        if chance < 0.8:
            return self.random.randint(-1, 1)
        return self.random.choice((-999, -500, 500, 998, 999))

    def deed(self, stepped=True):
        kind = self.random.choice((0, 0, 0, 1, 2, 3, 4, 5, 6, 7, 8, 9))
        field = self.random.randrange(3) if kind in WITH_FIELD else 0
        value = self.value() if kind in WITH_VALUE else 0
        step = self.value() if kind in WITH_VALUE and stepped else 0
        return ("deed", kind, field, value, step)

    def pieces(self, most, depth=0):
        """A row of pieces, and how many pieces it has with those within others."""
        made = []
        count = 0
        for place in range(self.random.randint(0, 4 if depth else 6)):
            if count >= most:
                break
            if depth == 3 or self.random.random() < 0.6:
                made.append(self.deed())
                count += 1
                continue
            inner, inner_count = self.pieces(most - count - 1, depth + 1)
            head = self.random.choice((
                ("loop", self.random.randint(1, 4)), ("to_end",), ("to_end",),
                ("part", self.random.randrange(3), self.value()),
            ))
            made.append(head + (inner,))
            count += 1 + inner_count
        return tuple(made), count

    def program(self):
        return self.pieces(16)[0]

    def state(self):
        count = self.random.choice((0, 1, 2, 3, 4, 5, 7, 8))
        rows = tuple(tuple(self.value() for field in range(3)) for place in range(count))
        return rows, self.random.choice((0, 0, 0, self.random.randint(0, count))), self.value()

    def recording(self):
        return [self.deed(False) for place in range(self.random.randint(0, 20))]


def split_run(answer):
    return answer[0], answer[1], answer[2:]


class Runs(unittest.TestCase):
    def test_random_programs(self):
        maker = Maker(1)
        ends = dict.fromkeys(range(7), 0)
        for turn in range(4000):
            pieces = maker.program()
            states = [maker.state() for place in range(3)]
            given = ask_of(program_numbers(pieces), *[run(table_numbers(state)) for state in states])
            for state, answer in zip(states, given):
                done, how, then = run_model(pieces, state)
                self.assertEqual(answer, [done, how] + table_numbers(then), (pieces, state))
                ends[how] += 1
        self.assertTrue(all(count > 50 for count in ends.values()), ends)

    def test_all_deeds_on_small_tables(self):
        """Every two deeds of all kinds, on every small table of few values."""
        kinds = [(kind, value) for kind in range(10) for value in ((0, 1) if kind in WITH_VALUE else (0,))]
        deeds = [("deed", kind, 0, value, 0) for kind, value in kinds]
        states = []
        for count in range(4):
            for firsts in itertools.product((0, 1), repeat=count):
                for cursor in range(count + 1):
                    states.append((tuple((first, 5, 6) for first in firsts), cursor, 1))
        for pieces in itertools.product(deeds, repeat=2):
            for place in range(0, len(states), 50):
                some = states[place:place + 50]
                given = ask_of(program_numbers(pieces), *[run(table_numbers(state)) for state in some])
                for state, answer in zip(some, given):
                    done, how, then = run_model(pieces, state)
                    self.assertEqual(answer, [done, how] + table_numbers(then), (pieces, state))

    def test_changed(self):
        maker = Maker(2)
        for turn in range(3000):
            pieces = maker.program()
            state = maker.state()
            then = run_model(pieces, state)[2]
            given = ask_of(program_numbers(pieces), changed(table_numbers(state)))[0]
            if len(then[0]) != len(state[0]):
                self.assertEqual(given, [-4])
                continue
            places = [
                (place, field) for place in range(len(then[0])) for field in range(3)
                if then[0][place][field] != state[0][place][field]
            ]
            self.assertEqual(given, [len(places)] + [number for place in places for number in place])


class Recordings(unittest.TestCase):
    def test_clean_and_same(self):
        maker = Maker(3)
        alikes = {0: 0, 1: 0}
        for turn in range(6000):
            deeds = maker.recording()
            state = maker.state()
            left = clean_model(deeds)
            numbers = recording_numbers(deeds)
            given = ask(clean(numbers), same(numbers, table_numbers(state)))
            self.assertEqual(given[0], [len(deeds) - len(left)] + recording_numbers(left), deeds)
            done, how, then = run_model(deeds, state)
            left_done, left_how, left_then = run_model(left, state)
            self.assertEqual(given[1], [how, left_how, 1 if then == left_then else 0], (deeds, state))
            alikes[given[1][2]] += 1
        self.assertGreater(min(alikes.values()), 100)

    def test_where_the_recording_ends_well_the_table_is_the_same(self):
        maker = Maker(4)
        well = 0
        for turn in range(4000):
            deeds = maker.recording()[:8]
            numbers = recording_numbers(deeds)
            given = ask(same(numbers, table_numbers(maker.state())))[0]
            if given[0] == 0:
                self.assertEqual(given, [0, 0, 1], deeds)
                well += 1
        self.assertGreater(well, 300)


class ToldAndRun(unittest.TestCase):
    """What's told from the program alone holds of its runs."""

    def test_what_is_accepted_is_never_too_long(self):
        maker = Maker(5)
        accepted = 0
        for turn in range(3000):
            numbers = program_numbers(maker.program())
            tables = [table_numbers(maker.state()) for place in range(5)]
            given = ask(join(numbers), ENDS, *[run(one) for one in tables])
            if given[0][1] == 1:
                accepted += 1
                for done, how, then in [split_run(answer) for answer in given[2:]]:
                    self.assertNotEqual(how, 6, numbers)
                    self.assertLessEqual(done, given[1][1], numbers)
        self.assertGreater(accepted, 500)

    def test_only_what_it_may_write_is_changed(self):
        maker = Maker(6)
        for turn in range(3000):
            numbers = program_numbers(maker.program())
            given = ask(program(numbers), TOUCHES, changed(table_numbers(maker.state())))
            touches, places = given[1:]
            if touches[-2] == 0:
                self.assertNotEqual(places, [-4])
                self.assertLessEqual(set(places[2::2]), set(touches[1:1 + touches[0]]))

    def test_an_old_clipboard_that_is_not_read_makes_no_difference(self):
        maker = Maker(7)
        for turn in range(3000):
            numbers = program_numbers(maker.program())
            rows, cursor, clipboard = maker.state()
            one, other = table_numbers((rows, cursor, -77)), table_numbers((rows, cursor, 88))
            touches, first, second = ask(program(numbers), TOUCHES, run(one), run(other))[1:]
            if touches[-1] == 0:
                self.assertEqual(first[:-1], second[:-1], numbers)


class Joins(unittest.TestCase):
    def test_random_joins(self):
        maker = Maker(8)
        for turn in range(3000):
            first, second = maker.program(), maker.program()
            state = table_numbers(maker.state())
            both = program_numbers(first + second)
            whole = ask(program(both), [1], TOUCHES, ENDS, run(state))
            given = ask(program(program_numbers(first)), join(program_numbers(second)), [1], TOUCHES, ENDS, run(state))
            if whole[0] == [-1]:
                self.assertEqual(given[1], [-6])
                self.assertEqual(given[2], program_numbers(first))
            else:
                accepted = whole[3][0] == 1 and whole[3][1] <= 60
                self.assertEqual(given[1], [whole[0][0], 1 if accepted else 0])
                self.assertEqual(given[2:], whole[1:])


if __name__ == "__main__":
    unittest.main()
