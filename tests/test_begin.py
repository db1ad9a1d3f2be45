"""begin: what it makes new, and each row that's wrong."""

import unittest

from tests.helper import RUN, TOP, ask, begin, give, last, look, need, put, row, run, skip


class BeginTakes(unittest.TestCase):

    def takes(self, *rows):
        self.assertEqual(last(begin(*rows)), [0])

    def test_no_rows(self):
        self.takes()
        self.assertEqual(run(begin(), put(63, 4), ask(0, 63)), [[0], [0], [1, 4]])

    def test_a_row_for_each_of_the_64_keys(self):
        self.takes(*[row(key, give(key)) for key in range(64)])

    def test_a_row_of_the_key_alone_is_a_rule_that_comes_to_0(self):
        self.assertEqual(run(begin([7]), put(7, 1), ask(1, 7), look(7)), [[0], [-1], [1, 0, 7], [1, 0, 0, 0]])

    def test_keys_0_and_63(self):
        self.takes([0])
        self.takes([63])
        self.takes([0], [63])

    def test_16_steps(self):
        self.takes(row(1, *[need(0)] * 16))
        self.takes(row(1, *[skip(15, TOP, 16)] * 16))
        self.takes(row(1, *[give(TOP, TOP, TOP)] * 16))

    def test_a_key_needed_just_below_its_own(self):
        self.takes(row(63, need(62)))
        self.takes(row(1, need(0)))

    def test_q_of_15_and_n_of_16(self):
        self.takes(row(1, skip(15, 0, 16)))

    def test_the_largest_numbers_where_all_are_free(self):
        self.takes(row(1, skip(0, TOP, 0), give(TOP, TOP, TOP)))


class BeginRefuses(unittest.TestCase):

    def refuses(self, number, *rows):
        self.assertEqual(last(begin(*rows)), [-1, number])

    def test_a_row_without_numbers(self):
        self.refuses(0, [])
        self.refuses(1, [1], [])
        self.refuses(1, [1], [], [2])

    def test_a_key_above_63(self):
        self.refuses(0, [64])
        self.refuses(0, [TOP])
        self.refuses(2, [0], [63], [64])

    def test_a_key_not_above_the_one_of_the_row_before(self):
        self.refuses(1, [5], [5])
        self.refuses(1, [5], [4])
        self.refuses(2, [5], [6], [0])
        self.refuses(1, [0], [0])
        self.refuses(1, [5], [5], [6])
        self.refuses(1, [5], [4], [6], [7])

    def test_70_rows(self):
        self.refuses(64, *[[key] for key in range(70)])
        self.refuses(0, *[[] for each in range(70)])

    def test_steps_cut_short(self):
        for short in ([0], [1], [1, 0], [1, 0, 0], [2], [2, 0], [2, 0, 0]):
            self.refuses(0, [9] + short)
            self.refuses(0, [9] + need(0) + short)

    def test_a_number_that_begins_no_step(self):
        for number in (3, 4, TOP):
            self.refuses(0, [9, number])
            self.refuses(0, [9, number, 0, 0, 0])
            self.refuses(0, [9] + give(0) + [number, 0])

    def test_17_steps(self):
        self.refuses(0, row(1, *[need(0)] * 17))
        self.refuses(0, row(1, *[skip(0, 0, 0)] * 17))
        self.refuses(0, row(1, *[give(0)] * 17))

    def test_80_numbers(self):
        self.refuses(0, row(1, *[need(0)] * 39) + [0])
        self.refuses(0, row(1, *[give(0)] * 19) + [0, 0, 0])

    def test_a_key_needed_that_is_its_own_or_above(self):
        self.refuses(0, row(5, need(5)))
        self.refuses(0, row(5, need(6)))
        self.refuses(0, row(5, need(TOP)))
        self.refuses(0, row(0, need(0)))
        self.refuses(0, row(63, need(64)))

    def test_q_above_15(self):
        self.refuses(0, row(5, skip(16, 0, 0)))
        self.refuses(0, row(5, skip(TOP, 0, 0)))

    def test_n_above_16(self):
        self.refuses(0, row(5, skip(0, 0, 17)))
        self.refuses(0, row(5, skip(0, 0, TOP)))

    def test_steps_that_are_never_come_to_are_held_against_the_same(self):
        self.refuses(0, row(5, give(1), need(5)))
        self.refuses(0, row(5, give(1), skip(16, 0, 0)))
        self.refuses(0, row(5, give(1)) + [3])

    def test_the_first_of_several_wrong_rows(self):
        self.refuses(1, [1], row(2, need(2)), [2], [])
        self.refuses(2, [1], [2], [3, 9], [64])
        self.refuses(0, [64], [1], [0])


class BeginAnew(unittest.TestCase):

    # An object on which everything that's kept is there, and looks at all of it.
    BEFORE = [begin(*RUN), put(0, 5, 1, 1), ask(64, 5), put(0, 6), ask(64, 4)]
    LOOKS = [look(key) for key in range(64)]

    def test_a_second_begin_makes_all_new(self):
        told = run(*self.BEFORE, begin(*RUN), *self.LOOKS)
        new = run(begin(*RUN), *self.LOOKS)
        self.assertEqual(told[-64:], new[-64:])
        self.assertEqual(new[1:], [[0] if key in (3, 4, 5) else [2, 0, 0, 0] for key in range(64)])

    def test_a_second_begin_has_its_own_rules_alone(self):
        told = run(*self.BEFORE, begin(row(1, give(9))), *self.LOOKS)
        self.assertEqual(told[-64:], [[0] if key == 1 else [2, 0, 0, 0] for key in range(64)])
        self.assertEqual(last(*self.BEFORE, begin(row(4, give(9))), put(3, 2, 5, 2), ask(1, 4)), [1, 9, 4])

    def test_begin_makes_new_what_was_set_before_any_begin(self):
        self.assertEqual(last(put(0, 1), put(2, 3), begin(), look(2)), [2, 0, 0, 0])

    def test_a_begin_that_is_refused_changes_nothing(self):
        there = run(*self.BEFORE, *self.LOOKS)[-64:]
        wrong = ([], [64], [2, 3], [2, 0], row(2, *[need(0)] * 17), row(2, need(2)), row(2, skip(16, 0, 0)),
                 row(2, skip(0, 0, 17)), [1])
        for each in wrong:
            told = run(*self.BEFORE, begin([1], each), *self.LOOKS)
            self.assertEqual(told[len(self.BEFORE)], [-1, 1])
            self.assertEqual(told[-64:], there)

    def test_the_rules_are_there_behind_a_begin_that_is_refused(self):
        there = run(*self.BEFORE, ask(64, 5))[-1]
        self.assertEqual(last(*self.BEFORE, begin(row(5, give(1)), [5]), ask(64, 5)), there)
        self.assertEqual(last(*self.BEFORE, begin([]), put(3, 1)), [-1])
