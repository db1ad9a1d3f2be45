"""The interface: one flat list in, one flat list out, and nothing else touched."""

import builtins
import contextlib
import io
import unittest
from unittest import mock

from keptanswers.desk import answers
from tests.helper import RUN, TOP, ask, begin, give, look, need, put, row, run


def flat(*calls):
    return [number for call in calls for number in call]


SOME = flat(begin(*RUN), put(0, 5, 1, 1), ask(1, 5), ask(9, 5), look(5), put(0, 6, 9), begin([], [1]), look(64), ask(1, 64))
TOLD = [1, 0, 1, 0, 5, 1, 21, 3, 4, 5, 2, 1, 21, 6, 1, 21, 1, 1, 4, 3, 1, -1, 2, -1, 0, 1, -1, 1, -1]


class ReadOnly(list):
    """A list that can't be changed, not for a while either."""

    def refuse(self, *given, **named):
        raise AssertionError("what was handed in is changed")

    append = clear = extend = insert = pop = remove = reverse = sort = refuse
    __setitem__ = __delitem__ = __iadd__ = __imul__ = refuse


class Interface(unittest.TestCase):

    def test_an_empty_list(self):
        told = answers([])
        self.assertEqual(told, [])
        self.assertIs(type(told), list)

    def test_counts_stand_before_what_is_answered(self):
        self.assertEqual(answers(SOME), TOLD)

    def test_whole_numbers_alone_are_answered(self):
        self.assertEqual({type(number) for number in answers(SOME)}, {int})

    def test_calls_before_any_begin(self):
        told = run(look(3), ask(0, 3), put(3, 8), ask(0, 3), look(3), put(64, 1), ask(0, 64), look(64))
        self.assertEqual(told, [[2, 0, 0, 0], [1, 0], [0], [1, 8], [2, 8, 1, 1], [-1], [-1], [-1]])

    def test_200_calls(self):
        calls = [begin(*RUN)]
        expected = [[0]]
        for each in range(1, 100):
            calls += [put(0, each), ask(1, 3)]
            expected += [[0], [1, 2 * each, 3]]
        calls.append(look(3))
        expected.append([1, 198, 99, 99, 0])
        self.assertEqual(len(calls), 200)
        self.assertEqual(run(*calls), expected)

    def test_nearly_31000_numbers(self):
        rows = [row(key, *[need(key - 1)] * 15, give(1, 1, 1)) for key in range(1, 64)]
        calls = [begin(*rows)] * 13 + [put(*[0, TOP] * 69, 0, 1)] * 10 + [ask(64, 63)]
        self.assertTrue(29000 < len(flat(*calls)) <= 31000)
        told = run(*calls)
        value = 1
        for each in range(63):
            value = (1 + 2 * value) % 2 ** 32
        self.assertEqual(told[-1], [1, value] + list(range(1, 64)))
        self.assertEqual(set(map(tuple, told[:-1])), {(0,)})

    def test_what_was_handed_in_is_as_it_was(self):
        handed = list(SOME)
        answers(handed)
        self.assertEqual(handed, SOME)

    def test_what_was_handed_in_is_not_changed_for_a_while(self):
        self.assertEqual(answers(ReadOnly(SOME)), TOLD)

    def test_the_same_list_asked_twice(self):
        self.assertEqual(answers(SOME), TOLD)
        answers(flat(put(0, 1), begin([3]), ask(1, 3)))
        self.assertEqual(answers(SOME), TOLD)

    def test_nothing_is_kept_from_one_time_to_the_next(self):
        answers(flat(begin(row(0, give(5))), put(1, 2), ask(9, 0)))
        self.assertEqual(run(look(0), look(1)), [[2, 0, 0, 0]] * 2)

    def test_what_is_answered_may_be_changed_without_harm(self):
        answers(SOME).clear()
        answers([]).append(1)
        self.assertEqual(answers(SOME), TOLD)
        self.assertEqual(answers([]), [])

    def test_nothing_is_printed_read_or_imported(self):
        refuse = mock.Mock(side_effect=AssertionError("outside"))
        out = io.StringIO()
        with contextlib.redirect_stdout(out), contextlib.redirect_stderr(out), \
                mock.patch.object(builtins, "__import__", refuse), mock.patch.object(builtins, "open", refuse), \
                mock.patch.object(builtins, "input", refuse):
            told = answers(SOME)
        self.assertEqual(told, TOLD)
        self.assertEqual(out.getvalue(), "")

    def test_few_calls_stand_within_one_another(self):
        import sys
        rows = [row(key, need(key - 1), give(1, 1)) for key in range(1, 64)]
        calls = flat(begin(*rows), ask(64, 63), put(0, 1), ask(64, 63), put(), ask(64, 63))
        expected = answers(calls)
        depth = 0
        frame = sys._getframe()
        while frame:
            depth += 1
            frame = frame.f_back
        before = sys.getrecursionlimit()
        sys.setrecursionlimit(depth + 30)
        try:
            told = answers(calls)
        finally:
            sys.setrecursionlimit(before)
        self.assertEqual(told, expected)
