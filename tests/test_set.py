"""set: what it turns, and what it refuses."""

import unittest

from tests.helper import RUN, TOP, ask, begin, last, look, put, run


class SetTakes(unittest.TestCase):

    def test_values_and_times(self):
        told = run(begin(*RUN), put(0, 5, 63, 1), look(0), look(63), look(1), put(1, 2), look(0), look(1))
        self.assertEqual(told[1:], [[0], [2, 5, 1, 1], [2, 1, 1, 1], [2, 0, 0, 1], [0], [2, 5, 1, 2], [2, 2, 2, 2]])

    def test_the_last_of_a_key_counts(self):
        self.assertEqual(last(put(0, 5, 1, 3, 0, 6), look(0)), [2, 6, 1, 1])
        self.assertEqual(last(put(0, 5, 0, 6, 0, 7), look(0)), [2, 7, 1, 1])

    def test_a_last_value_that_is_the_one_it_had_does_not_turn(self):
        self.assertEqual(last(put(0, 5), put(0, 6, 0, 5), look(0)), [2, 5, 1, 2])
        self.assertEqual(last(put(0, 6, 0, 0), look(0)), [2, 0, 0, 1])

    def test_a_first_value_that_is_the_one_it_had_may_turn(self):
        self.assertEqual(last(put(0, 5), put(0, 5, 0, 6), look(0)), [2, 6, 2, 2])

    def test_an_empty_list_is_a_setting_too(self):
        self.assertEqual(run(put(), look(0)), [[0], [2, 0, 0, 1]])
        self.assertEqual(last(put(0, 5), put(), put(), look(0)), [2, 5, 1, 3])

    def test_the_same_value_does_not_turn_but_is_a_time_later(self):
        self.assertEqual(last(put(0, 5), put(0, 5), look(0)), [2, 5, 1, 2])
        self.assertEqual(last(put(0, 0), look(0)), [2, 0, 0, 1])

    def test_the_largest_value(self):
        self.assertEqual(run(put(63, TOP), ask(0, 63), look(63)), [[0], [1, TOP], [2, TOP, 1, 1]])

    def test_140_numbers(self):
        self.assertEqual(run(put(*[0, 7] * 69, 0, 8), look(0)), [[0], [2, 8, 1, 1]])


class SetRefuses(unittest.TestCase):

    BEFORE = [begin(*RUN), put(0, 5, 1, 1), ask(64, 5)]
    LOOKS = [look(key) for key in range(64)]

    def refuses(self, *numbers):
        there = run(*self.BEFORE, *self.LOOKS)[-64:]
        told = run(*self.BEFORE, put(*numbers), *self.LOOKS)
        self.assertEqual(told[3], [-1])
        self.assertEqual(told[-64:], there)

    def test_a_number_left_over(self):
        self.refuses(0)
        self.refuses(0, 6, 1)
        self.refuses(0, 6, 64)

    def test_a_key_above_63(self):
        self.refuses(64, 0)
        self.refuses(TOP, 0)
        self.refuses(0, 6, 64, 1)
        self.refuses(64, 1, 0, 6)

    def test_a_key_that_has_a_rule(self):
        self.refuses(3, 0)
        self.refuses(0, 6, 4, 1)
        self.refuses(5, 1, 0, 6)

    def test_the_key_of_a_rule_that_was_never_done(self):
        self.assertEqual(run(begin([2]), put(2, 0), look(0)), [[0], [-1], [2, 0, 0, 0]])

    def test_a_wrong_key_though_a_right_one_comes_behind_it(self):
        self.refuses(3, 1, 3, 0, 0, 6)
