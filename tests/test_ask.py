"""ask: answers, budgets, and questions that stop."""

import unittest

from tests.helper import RUN, TOP, ask, begin, give, last, look, need, put, row, run, skip

CHAIN = [row(key, need(key - 1), give(1, 1)) for key in range(1, 64)]

# Keys 10, 11 and 12 stand by themselves over inputs; key 20 needs them one after another.
THREE = [row(10, need(0), give(1, 1)), row(11, need(1), give(1, 1)), row(12, need(2), give(1, 1)),
         row(20, need(10), need(11), need(12), give(0, 1, 1))]


class AskOf(unittest.TestCase):

    def test_an_input(self):
        self.assertEqual(run(ask(0, 5), put(5, 8), ask(0, 5), ask(64, 5)), [[1, 0], [0], [1, 8], [1, 8]])

    def test_a_rule(self):
        self.assertEqual(last(begin(*RUN), put(0, 4), ask(64, 3)), [1, 8, 3])

    def test_keys_63_and_64(self):
        self.assertEqual(last(put(63, 2), ask(64, 63)), [1, 2])
        self.assertEqual(last(begin(row(63, give(4))), ask(64, 63)), [1, 4, 63])
        for key in (64, TOP):
            self.assertEqual(last(ask(64, key)), [-1])
            self.assertEqual(last(begin(row(63, give(4))), ask(64, key)), [-1])

    def test_a_question_that_is_refused_changes_nothing(self):
        looks = [look(key) for key in range(64)]
        calls = [begin(*RUN), put(0, 5), ask(1, 5)]
        self.assertEqual(run(*calls, ask(64, 64), *looks)[4:], run(*calls, *looks)[3:])

    def test_the_keys_come_as_their_rules_ended(self):
        rows = [row(1, give(1)), row(2, give(2)), row(3, need(2), need(1)), row(4, need(0), need(3), need(1))]
        self.assertEqual(last(begin(*rows), ask(64, 4)), [1, 0, 2, 1, 3, 4])

    def test_nothing_is_done_for_what_is_right(self):
        told = run(begin(*THREE), ask(64, 20), ask(64, 20), ask(0, 20), ask(0, 11))
        self.assertEqual(told[1:], [[1, 2, 10, 11, 12, 20], [1, 2], [1, 2], [1, 1]])


class Budgets(unittest.TestCase):

    def test_0_begins_nothing(self):
        told = run(begin(*THREE), ask(0, 20), look(20), look(10), ask(0, 0))
        self.assertEqual(told[1:], [[0], [0], [0], [1, 0]])

    def test_0_still_finds_right(self):
        told = run(begin(*THREE), ask(64, 20), put(5, 1), ask(0, 20), look(20), look(12))
        self.assertEqual(told[3:], [[1, 2], [1, 2, 0, 1, 10, 11, 12], [1, 1, 0, 1, 2]])

    def test_1(self):
        told = run(begin(*THREE), ask(1, 20), ask(1, 20), ask(1, 20), ask(1, 20))
        self.assertEqual(told[1:], [[0, 10], [0, 11], [1, 2, 12, 20], [1, 2]])

    def test_2(self):
        self.assertEqual(run(begin(*THREE), ask(2, 20), ask(2, 20))[1:], [[0, 10, 11], [1, 2, 12, 20]])

    def test_3_is_as_much_as_is_needed_as_the_last_was_begun(self):
        self.assertEqual(last(begin(*THREE), ask(3, 20)), [1, 2, 10, 11, 12, 20])

    def test_64_and_the_largest(self):
        for budget in (64, TOP):
            self.assertEqual(last(begin(*THREE), ask(budget, 20)), [1, 2, 10, 11, 12, 20])
            self.assertEqual(last(begin(*CHAIN), ask(budget, 63)), [1, 63] + list(range(1, 64)))

    def test_a_budget_is_for_one_question(self):
        self.assertEqual(run(begin(*THREE), ask(1, 10), ask(1, 11), ask(1, 12))[1:], [[1, 1, 10], [1, 1, 11], [1, 1, 12]])

    def test_what_is_under_way_goes_on_behind_the_end(self):
        self.assertEqual(last(begin(*CHAIN), ask(1, 63)), [1, 63] + list(range(1, 64)))

    def test_what_is_under_way_goes_on_until_it_needs_another_rule_begun(self):
        rows = [row(1, need(0)), row(2, need(1)), row(3, give(3)), row(4, need(2), need(3)), row(5, need(4))]
        self.assertEqual(last(begin(*rows), ask(1, 5)), [0, 1, 2])

    def test_what_is_under_way_may_take_what_is_kept(self):
        rows = [row(1, give(5)), row(2, give(6)), row(3, need(1), need(2), give(0, 1, 1))]
        self.assertEqual(run(begin(*rows), ask(1, 2), ask(1, 3))[2], [1, 11, 1, 3])

    def test_what_is_under_way_may_find_right_behind_the_end(self):
        rows = [row(11, need(0)), row(12, need(1), give(6)), row(13, need(11), need(12), give(0, 1, 1))]
        calls = [begin(*rows), ask(1, 12), put(0, 1)]
        self.assertEqual(run(*calls, ask(1, 13), look(12))[3:], [[1, 6, 11, 13], [1, 6, 0, 1, 1]])

    def test_a_rule_that_is_only_checked_is_not_under_way(self):
        told = run(begin(*CHAIN[:3]), ask(64, 3), put(0, 1), ask(1, 3), ask(1, 3), ask(1, 3), ask(1, 3))
        self.assertEqual(told[3:], [[0, 1], [0, 2], [1, 4, 3], [1, 4]])

    def test_a_check_goes_on_behind_the_end_where_nothing_turned(self):
        rows = [row(5, need(0), skip(0, 0, 0), give(4)), row(6, need(5), need(1), give(0, 1, 1))]
        told = run(begin(*rows), ask(64, 6), put(0, 1), ask(1, 6), look(6))
        self.assertEqual(told[3:], [[1, 4, 5], [1, 4, 0, 1, 5, 1]])


class Stopped(unittest.TestCase):

    def test_what_was_done_stays(self):
        told = run(begin(*THREE), put(0, 4), ask(1, 20), look(10), look(11), look(20))
        self.assertEqual(told[2:], [[0, 10], [1, 5, 1, 1, 0], [0], [0]])

    def test_what_was_found_right_stays(self):
        calls = [begin(*THREE), ask(64, 20), put(1, 7), ask(0, 20)]
        told = run(*calls, look(10), look(11), look(12), look(20))
        self.assertEqual(told[3:], [[0], [1, 1, 0, 1, 0], [1, 1, 0, 0, 1], [1, 1, 0, 0, 2], [1, 2, 0, 0, 10, 11, 12]])

    def test_what_was_kept_of_a_rule_that_is_cut_stays_as_it_was(self):
        rows = [row(10, need(2), give(1, 1)), row(20, need(0), need(1), need(10), give(0, 1, 1))]
        calls = [begin(*rows), put(1, 5), ask(64, 20), put(0, 1, 2, 1), ask(0, 20)]
        self.assertEqual(run(*calls, look(20), ask(64, 20))[4:], [[0], [1, 6, 1, 1, 0, 1, 10], [1, 7, 10, 20]])

    def test_a_rule_begun_and_cut_is_begun_anew(self):
        rows = [row(10, give(1)), row(11, give(2)), row(20, need(0), need(10), need(11), give(0, 1, 1))]
        told = run(begin(*rows), ask(1, 20), look(20), put(0, 9), ask(1, 20), look(20))
        self.assertEqual(told[1:], [[0, 10], [0], [0], [1, 3, 11, 20], [1, 3, 1, 1, 0, 10, 11]])

    def test_another_question_may_come_between(self):
        told = run(begin(*THREE), ask(1, 20), ask(1, 12), put(0, 3), ask(1, 20), ask(1, 20))
        self.assertEqual(told[1:], [[0, 10], [1, 1, 12], [0], [0, 10], [1, 2, 11, 20]])
