"""Rules: what need, skip and give come to."""

import unittest

from tests.helper import TOP, ask, begin, give, last, look, need, put, row, run, skip


def comes_to(steps, *pairs):
    """The answer of a rule with these steps at key 40, where these inputs are set."""
    told = run(begin(row(40, *steps)), put(*pairs), ask(1, 40))
    assert told[:2] == [[0], [0]] and told[2][0] == 1 and told[2][2:] == [40], told
    return told[2][1]


class Skip(unittest.TestCase):

    def test_on_the_latest_and_on_those_before(self):
        for back, key in ((0, 2), (1, 1), (2, 0)):
            steps = [need(0), need(1), need(2), skip(back, 9, 1), give(1), give(2)]
            self.assertEqual(comes_to(steps, key, 9), 2)
            self.assertEqual(comes_to(steps, 0, 8, 1, 8, 2, 8), 1)

    def test_a_value_far_back(self):
        steps = [need(1)] + [need(0)] * 12
        self.assertEqual(comes_to(steps + [skip(12, 9, 1), give(1), give(2)], 1, 9), 2)
        self.assertEqual(comes_to(steps + [skip(15, 0, 1), give(1), give(2)], 1, 9, 0, 9), 2)

    def test_with_a_value_that_there_is_not(self):
        self.assertEqual(comes_to([skip(0, 0, 1), give(1), give(2)]), 2)
        self.assertEqual(comes_to([skip(0, 1, 1), give(1), give(2)]), 1)
        self.assertEqual(comes_to([need(0), skip(1, 0, 1), give(1), give(2)], 0, 5), 2)
        self.assertEqual(comes_to([need(0), skip(15, 0, 1), give(1), give(2)], 0, 5), 2)
        self.assertEqual(comes_to([need(0), skip(1, 5, 1), give(1), give(2)], 0, 5), 1)

    def test_as_many_steps_as_it_says(self):
        gives = [give(each) for each in range(15)]
        for count in range(15):
            self.assertEqual(comes_to([skip(0, 0, count)] + gives), count)

    def test_to_the_end(self):
        self.assertEqual(comes_to([skip(0, 0, 2), give(1), give(2)]), 0)

    def test_over_more_steps_than_there_are(self):
        self.assertEqual(comes_to([skip(0, 0, 3), give(1), give(2)]), 0)
        self.assertEqual(comes_to([skip(0, 0, 16), give(1)]), 0)
        self.assertEqual(comes_to([give(1), skip(0, 0, 16)]), 1)

    def test_a_need_that_is_left_out_is_not_needed(self):
        rows = [row(2, need(0), skip(0, 0, 1), need(1), give(0, 1))]
        self.assertEqual(last(begin(*rows), put(1, 7), ask(1, 2), look(2)), [1, 0, 1, 1, 0])
        self.assertEqual(last(begin(*rows), put(0, 1, 1, 7), ask(1, 2), look(2)), [1, 7, 1, 1, 0, 1])

    def test_the_largest_value(self):
        self.assertEqual(comes_to([need(0), skip(0, TOP, 1), give(1), give(2)], 0, TOP), 2)


class Give(unittest.TestCase):

    def test_with_no_value(self):
        self.assertEqual(comes_to([give(5, 7, 9)]), 5)

    def test_with_one_value(self):
        self.assertEqual(comes_to([need(0), give(5, 7, 9)], 0, 10), 75)

    def test_with_two_values(self):
        self.assertEqual(comes_to([need(0), need(1), give(5, 7, 9)], 0, 10, 1, 100), 5 + 700 + 90)

    def test_with_three_values_the_first_does_not_count(self):
        self.assertEqual(comes_to([need(2), need(0), need(1), give(5, 7, 9)], 0, 10, 1, 100, 2, 1000), 795)

    def test_modulo(self):
        self.assertEqual(comes_to([need(0), give(1, 1)], 0, TOP), 0)
        self.assertEqual(comes_to([need(0), give(0, 1)], 0, TOP), TOP)
        self.assertEqual(comes_to([need(0), give(0, TOP)], 0, TOP), 1)
        self.assertEqual(comes_to([need(0), need(0), give(TOP, TOP, TOP)], 0, TOP), 1)
        self.assertEqual(comes_to([need(0), give(0, 65536)], 0, 65536), 0)

    def test_steps_behind_it_are_not_gone_through(self):
        rows = [row(2, need(0), give(4), need(1), give(5))]
        self.assertEqual(last(begin(*rows), ask(1, 2), look(2)), [1, 4, 0, 0, 0])


class Need(unittest.TestCase):

    def test_a_rule_that_ends_without_give(self):
        self.assertEqual(comes_to([need(0), need(1)], 0, 3, 1, 4), 0)
        self.assertEqual(comes_to([]), 0)

    def test_the_same_key_twice(self):
        self.assertEqual(comes_to([need(0), need(0), give(0, 1, 10)], 0, 3), 33)
        rows = [row(1, need(0), give(1, 1)), row(2, need(1), need(0), need(1), give(0, 1, 10))]
        told = run(begin(*rows), put(0, 3), ask(9, 2), look(2), put(0, 4), ask(9, 2), ask(9, 2))
        self.assertEqual(told[2:], [[1, 34, 1, 2], [1, 34, 1, 1, 1, 0, 1], [0], [1, 45, 1, 2], [1, 45]])

    def test_16_needs(self):
        rows = [row(16, *[need(key) for key in range(16)])]
        self.assertEqual(last(begin(*rows), ask(1, 16), look(16)), [1, 0, 0, 0] + list(range(16)))

    def test_a_chain_of_all_64_keys(self):
        rows = [row(0, give(1))] + [row(key, need(key - 1), give(1, 1)) for key in range(1, 64)]
        told = run(begin(*rows), ask(64, 63), put(), ask(64, 63), look(0), look(63))
        self.assertEqual(told[1:], [[1, 64] + list(range(64)), [0], [1, 64], [1, 1, 0, 1], [1, 64, 0, 1, 62]])

    def test_a_chain_over_an_input(self):
        rows = [row(key, need(key - 1), give(1, 1)) for key in range(1, 64)]
        told = run(begin(*rows), ask(64, 63), put(0, 5), ask(64, 63), ask(64, 63))
        keys = list(range(1, 64))
        self.assertEqual(told[1:], [[1, 63] + keys, [0], [1, 68] + keys, [1, 68]])

    def test_keys_that_need_all_those_below_are_each_done_once(self):
        rows = [row(key, *[need(below) for below in range(max(0, key - 15), key)], give(1, 1, 1)) for key in range(64)]
        told = run(begin(*rows), ask(64, 63), put(), ask(0, 63))
        self.assertEqual(told[1][2:], list(range(64)))
        self.assertEqual(told[3], told[1][:2])
