"""N2 to N5, each by its own words, and each of the eight things that would be wrong."""

import unittest

from tests.helper import RUN, TOP, ask, begin, give, last, look, need, put, row, run, skip

# Tells only whether input 0 is 0, so that its answer often stays as it was.
ZERO = row(10, need(0), skip(0, 0, 1), give(1), give(2))
OVER_ZERO = row(20, need(10), need(1), give(0, 1, 1))


class AskingSetsNothing(unittest.TestCase):

    def test_n2(self):
        inputs = [look(key) for key in (0, 1, 2, 63)]
        for budget in (0, 1, 64):
            for key in (0, 3, 4, 5, 64):
                calls = [begin(*RUN), put(0, 5, 1, 1, 63, TOP), put(0, 6)]
                told = run(*calls, *inputs, ask(budget, key), *inputs)
                self.assertEqual(told[3:7], [[2, 6, 2, 2], [2, 1, 1, 2], [2, 0, 0, 2], [2, TOP, 1, 2]])
                self.assertEqual(told[8:], told[3:7])


class ThereIsAnAnswer(unittest.TestCase):

    # Every rule needs two below, so that a small budget is often reached.
    WIDE = [row(0, give(1)), row(1, need(0), give(1, 1))] + [
        row(key, need(key - 2), need(key - 1), give(1, 1, 1)) for key in range(2, 64)]
    # The top needs fifteen that stand by themselves, each of which needs two such, as far as keys go.
    FLAT = [row(key, give(key)) for key in range(40)] + [
        row(40 + each, need(2 * each), need(2 * each + 1), give(0, 1, 1)) for each in range(20)] + [
        row(63, *[need(40 + each) for each in range(15)], give(0, 1, 1))]

    def test_n3_with_a_budget_of_64(self):
        for rows in (self.WIDE, self.FLAT):
            for each in range(1, 4):
                self.assertEqual(last(begin(*rows), ask(64, 64 - each))[0], 1)

    def test_n3_with_any_budgets_above_0_asked_64_times(self):
        for rows in (self.WIDE, self.FLAT):
            for budgets in ([1], [2], [1, 2], [3, 1, 1], [7]):
                asks = [ask(budgets[each % len(budgets)], 63) for each in range(64)]
                told = run(begin(*rows), *asks)
                self.assertEqual(told[64], [1, told[64][1]])
                done = [key for each in told[1:] for key in (each[2:] if each[0] == 1 else each[1:])]
                self.assertEqual(len(done), len(set(done)))

    def test_n3_a_budget_of_1_goes_on_by_one_rule_at_least(self):
        told = run(begin(*self.FLAT), *[ask(1, 63) for each in range(64)])
        stopped = [each for each in told[1:] if each[0] == 0]
        self.assertTrue(len(stopped) > 10)
        self.assertTrue(all(len(each) > 1 for each in stopped))

    def test_n3_a_budget_bounds_what_is_done_by_itself_and_those_under_way(self):
        # At most key 63 and one of the keys from 40 on are under way when the last that the budget allows ends.
        for budget in range(20):
            told = last(begin(*self.FLAT), ask(budget, 63))
            self.assertEqual(told[0], 0)
            self.assertTrue(budget <= len(told) - 1 <= budget + 1, told)


class DoneAgain(unittest.TestCase):

    def test_n4_only_if_something_it_needed_turned(self):
        calls = [begin(ZERO, OVER_ZERO), put(0, 5), ask(64, 20)]
        self.assertEqual(last(*calls, put(2, 1), ask(64, 20)), [1, 1])
        self.assertEqual(last(*calls, put(0, 6), ask(64, 20)), [1, 1, 10])
        self.assertEqual(last(*calls, put(0, 0), ask(64, 20)), [1, 2, 10, 20])
        self.assertEqual(last(*calls, put(1, 1), ask(64, 20)), [1, 2, 20])

    def test_n4_behind_its_last_finding(self):
        calls = [begin(ZERO, OVER_ZERO), put(0, 5), put(0, 6), ask(64, 20), put(2, 1)]
        self.assertEqual(last(*calls, ask(64, 20)), [1, 1])
        self.assertEqual(last(*calls, ask(64, 20), put(2, 2), ask(64, 20)), [1, 1])

    def test_n4_a_turn_that_was_found_already_is_no_reason(self):
        calls = [begin(ZERO, OVER_ZERO), ask(64, 20), put(1, 1), ask(64, 20), put(2, 1), ask(64, 20)]
        self.assertEqual(last(*calls, put(2, 2), ask(0, 20)), [1, 3])

    def test_n4_once_in_a_question(self):
        rows = [ZERO, row(11, need(10), need(10), give(0, 1, 1)), row(12, need(10), need(11), need(10), give(0, 1, 1))]
        told = run(begin(*rows), ask(64, 12), put(0, 5), ask(64, 12))
        self.assertEqual(told[1:], [[1, 6, 10, 11, 12], [0], [1, 3, 10, 11, 12]])

    def test_n4_a_key_that_it_no_longer_needs_is_no_reason(self):
        calls = [begin(*RUN), put(0, 5, 1, 1), ask(64, 4), put(1, 0), ask(64, 4), put(0, 9)]
        self.assertEqual(last(*calls, ask(64, 4)), [1, 7])


class AsTheyWere(unittest.TestCase):

    def test_n5_inputs_set_as_they_were(self):
        calls = [begin(*RUN), put(0, 5, 1, 1), ask(64, 5)]
        told = run(*calls, put(0, 5, 1, 1), ask(0, 5), put(0, 7, 0, 5), ask(0, 5), put(), ask(0, 5))
        self.assertEqual(told[3:], [[0], [1, 21]] * 3)

    def test_n5_what_is_set_elsewhere(self):
        calls = [begin(*RUN), put(0, 5, 1, 0), ask(64, 4)]
        told = run(*calls, put(0, 6), ask(0, 4), put(2, 9, 63, 9), ask(0, 4))
        self.assertEqual(told[3:], [[0], [1, 7]] * 2)


class WouldBeWrong(unittest.TestCase):

    def test_1_a_kept_answer_found_right_by_its_first_question_alone(self):
        rows = [row(5, need(0), need(1), need(2), give(0, 1, 1))]
        calls = [begin(*rows), ask(64, 5)]
        self.assertEqual(last(*calls, put(1, 4), ask(64, 5)), [1, 4, 5])
        self.assertEqual(last(*calls, put(2, 4), ask(64, 5)), [1, 4, 5])

    def test_2_a_time_of_turning_set_at_each_doing(self):
        calls = [begin(ZERO, OVER_ZERO), put(0, 5), ask(64, 20), put(0, 6), ask(64, 10)]
        self.assertEqual(run(*calls, look(10), ask(64, 20))[4:], [[1, 1, 10], [1, 1, 1, 2, 0], [1, 1]])

    def test_3_the_time_of_finding_set_though_a_question_was_cut(self):
        rows = [row(10, need(0), give(0, 1)), row(11, need(1), give(0, 1)), row(20, need(10), need(11), give(0, 1, 1))]
        calls = [begin(*rows), ask(64, 20), put(0, 1, 1, 1)]
        told = run(*calls, ask(1, 20), look(20), look(11), ask(1, 20), look(20), look(11), ask(1, 20))
        self.assertEqual(told[3:], [[0, 10], [1, 0, 0, 0, 10, 11], [1, 0, 0, 0, 1],
                                    [1, 2, 11, 20], [1, 2, 1, 1, 10, 11], [1, 1, 1, 1, 1], [1, 2]])
        # Here it's the check, not the doing, that's cut.
        calls = [begin(*rows), ask(64, 20), put(1, 1)]
        self.assertEqual(run(*calls, ask(0, 20), look(20), ask(64, 20))[3:], [[0], [1, 0, 0, 0, 10, 11], [1, 1, 11, 20]])

    def test_4_keys_needed_at_an_earlier_doing_brought_behind_one_that_turned(self):
        rows = [row(10, need(1), give(0, 1)), row(20, need(0), skip(0, 0, 2), need(10), give(0, 1), give(7))]
        calls = [begin(*rows), put(0, 1), ask(64, 20), put(0, 0, 1, 9)]
        self.assertEqual(run(*calls, ask(64, 20), look(10))[4:], [[1, 7, 20], [1, 0, 1, 1, 1]])
        # Nor are they found right for it.
        calls = [begin(*rows), put(0, 1), ask(64, 20), put(0, 0)]
        self.assertEqual(run(*calls, ask(64, 20), look(10))[4:], [[1, 7, 20], [1, 0, 1, 1, 1]])

    def test_5_work_thrown_away_at_a_cut(self):
        rows = [row(key, need(0), give(key, 1)) for key in (10, 11, 12)] + [row(20, need(10), need(11), need(12))]
        told = run(begin(*rows), ask(2, 20), ask(0, 10), ask(0, 11), ask(0, 12), ask(1, 20))
        self.assertEqual(told[1:], [[0, 10, 11], [1, 10], [1, 11], [0], [1, 0, 12, 20]])

    def test_6_a_cut_that_keeps_half_the_keys_as_if_they_were_all(self):
        rows = [row(key, need(key - 10), give(0, 1)) for key in (10, 11)] + [row(20, need(10), need(11), give(0, 1, 1))]
        calls = [begin(*rows), ask(1, 20), look(20), put(1, 6), ask(64, 20), look(20)]
        self.assertEqual(run(*calls)[1:], [[0, 10], [0], [0], [1, 6, 11, 20], [1, 6, 1, 1, 10, 11]])
        # Here there are keys of an earlier doing, and the rule is begun anew before it's cut.
        rows[2] = row(20, need(2), need(10), need(11), give(0, 1, 1))
        calls = [begin(*rows), ask(64, 20), put(0, 1, 1, 1, 2, 1), ask(1, 20), look(20), put(1, 6), ask(64, 20)]
        self.assertEqual(run(*calls)[3:], [[0, 10], [1, 0, 0, 0, 2, 10, 11], [0], [1, 7, 11, 20]])

    def test_7_a_setting_of_the_same_value_that_turns_an_input(self):
        calls = [begin(*RUN), put(0, 5), ask(64, 3), put(0, 5), look(0), ask(64, 3), look(3)]
        self.assertEqual(run(*calls)[4:], [[2, 5, 1, 2], [1, 10], [1, 10, 1, 2, 0]])

    def test_8_what_is_under_way_stopped_at_the_budget(self):
        rows = [row(key, need(key - 1), give(1, 1)) for key in (1, 2, 3)]
        self.assertEqual(last(begin(*rows), ask(1, 3)), [1, 3, 1, 2, 3])
        self.assertEqual(last(begin(*rows), ask(2, 3)), [1, 3, 1, 2, 3])
