"""look: inputs, rules, and keys that there aren't."""

import unittest

from tests.helper import RUN, TOP, ask, begin, give, last, look, need, put, row, run


class Look(unittest.TestCase):

    def test_before_any_begin_all_keys_are_inputs(self):
        self.assertEqual(run(look(0), look(63)), [[2, 0, 0, 0], [2, 0, 0, 0]])
        self.assertEqual(last(put(63, 9), put(1, 1), look(63)), [2, 9, 1, 2])

    def test_an_input(self):
        self.assertEqual(last(begin(*RUN), put(0, 5), put(1, 1), look(0)), [2, 5, 1, 2])

    def test_a_rule_with_nothing_kept(self):
        self.assertEqual(last(begin(*RUN), look(3)), [0])
        self.assertEqual(last(begin(*RUN), put(0, 1), ask(0, 3), look(3)), [0])

    def test_a_rule_with_an_answer_kept(self):
        self.assertEqual(last(begin(*RUN), put(0, 5), put(1, 1), ask(9, 5), look(5)), [1, 21, 2, 2, 4, 3])

    def test_a_rule_kept_at_time_0(self):
        self.assertEqual(last(begin(*RUN), ask(9, 4), look(4)), [1, 7, 0, 0, 1])

    def test_a_rule_that_needed_nothing(self):
        self.assertEqual(last(begin(row(9, give(4), need(0))), put(), ask(1, 9), look(9)), [1, 4, 1, 1])

    def test_a_kept_answer_is_told_as_it_is_though_inputs_turned(self):
        self.assertEqual(last(begin(*RUN), put(0, 5), ask(9, 3), put(0, 6), look(3)), [1, 10, 1, 1, 0])

    def test_looking_changes_nothing(self):
        calls = [begin(*RUN), put(0, 5), ask(9, 5), put(0, 6)]
        looks = [look(key) for key in range(64)]
        told = run(*calls, *looks, *looks, ask(9, 5))
        self.assertEqual(told[4:68], told[68:132])
        self.assertEqual(told[-1], last(*calls, ask(9, 5)))

    def test_keys_63_and_64(self):
        self.assertEqual(last(begin(*RUN), look(63)), [2, 0, 0, 0])
        self.assertEqual(last(begin([63]), look(63)), [0])
        self.assertEqual(last(begin(*RUN), look(64)), [-1])
        self.assertEqual(last(begin(*RUN), look(TOP)), [-1])
        self.assertEqual(last(look(64)), [-1])
