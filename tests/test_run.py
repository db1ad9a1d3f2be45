"""The document's run, call by call, as one list of calls."""

import unittest

from tests.helper import RUN, ask, begin, look, put, run


class TheRun(unittest.TestCase):

    def test_every_answer_that_the_document_tells(self):
        told = [
            (begin(*RUN), [0]),
            (put(0, 5, 1, 0), [0]),
            (look(0), [2, 5, 1, 1]),
            (ask(9, 5), [1, 17, 4, 3, 5]),
            (ask(9, 5), [1, 17]),
            (put(0, 6), [0]),
            (look(0), [2, 6, 2, 2]),
            (ask(9, 4), [1, 7]),
            (ask(9, 5), [1, 19, 3, 5]),
            (put(1, 1), [0]),
            (look(1), [2, 1, 3, 3]),
            (ask(1, 5), [0, 4]),
            (look(4), [1, 13, 3, 3, 1, 3]),
            (look(3), [1, 12, 2, 3, 0]),
            (look(5), [1, 19, 2, 2, 4, 3]),
            (ask(1, 5), [1, 25, 5]),
            (look(3), [1, 12, 2, 3, 0]),
        ]
        self.assertEqual(run(*[call for call, answer in told]), [answer for call, answer in told])
