"""N1 and MAIN: many drawn rules, settings and questions, held against plain readings of the document."""

import random
import unittest

from tests.helper import Model, all_so, ask, begin, draw_rows, draw_setting, look, put, run

BUDGETS = (0, 0, 1, 1, 1, 2, 3, 5, 64)


def draw_calls(draw, rows, keys, values, count):
    """Settings and questions, each as its name and what it has."""
    drawn = []
    for each in range(count):
        if draw.randrange(3) == 0:
            drawn.append(("put", draw_setting(draw, rows, keys, values)))
        else:
            drawn.append(("ask", draw.choice(BUDGETS), draw.choice([keys - 1, draw.randrange(keys)])))
    return drawn


def written(call):
    return put(*call[1]) if call[0] == "put" else ask(call[1], call[2])


class Drawn(unittest.TestCase):

    def hold_answers_against_the_inputs(self, seed, keys, values, count):
        """How many questions of these were answered, and how many stopped."""
        draw = random.Random(seed)
        rows = draw_rows(draw, keys, values)
        drawn = draw_calls(draw, rows, keys, values, count)
        told = run(begin(*rows), *[written(call) for call in drawn])
        self.assertEqual(told[0], [0])
        inputs = {}
        so = all_so(rows, inputs)[0]
        answered = 0
        stopped = 0
        for call, answer in zip(drawn, told[1:]):
            if call[0] == "put":
                self.assertEqual(answer, [0])
                inputs.update(zip(call[1][::2], call[1][1::2]))
                so = all_so(rows, inputs)[0]
            elif answer[0] == 1:
                answered += 1
                self.assertEqual(answer[1], so[call[2]], (seed, call))
            else:
                stopped += 1
                self.assertEqual(answer[0], 0)
                self.assertTrue(call[1] < 64)
        return answered, stopped

    def test_main_few_keys(self):
        counts = [self.hold_answers_against_the_inputs(seed, 4 + seed % 9, 2 + seed % 3, 120) for seed in range(300)]
        self.assertTrue(sum(answered for answered, stopped in counts) > 10000)
        self.assertTrue(sum(stopped for answered, stopped in counts) > 1000)

    def test_main_all_keys(self):
        counts = [self.hold_answers_against_the_inputs(seed, 64, 2 + seed % 3, 199) for seed in range(60)]
        self.assertTrue(sum(answered for answered, stopped in counts) > 2000)
        self.assertTrue(sum(stopped for answered, stopped in counts) > 400)

    def test_every_answer_is_the_model_s(self):
        for seed in range(300):
            draw = random.Random(1000 + seed)
            keys = 64 if seed % 6 == 0 else 3 + seed % 12
            rows = draw_rows(draw, keys, 3)
            calls = []
            expected = []
            model = Model(rows)
            for call in draw_calls(draw, rows, keys, 3, 90):
                calls.append(written(call))
                expected.append(model.put(call[1]) if call[0] == "put" else model.ask(call[1], call[2]))
                seen = draw.randrange(keys)
                calls.append(look(seen))
                expected.append(model.look(seen))
            self.assertEqual(run(begin(*rows), *calls), [[0]] + expected, seed)


class Step(unittest.TestCase):
    """What each question changes, seen by a look at every key before and behind it."""

    KEYS = 10

    def test_each_question(self):
        for seed in range(400):
            draw = random.Random(2000 + seed)
            rows = draw_rows(draw, self.KEYS, 3)
            drawn = draw_calls(draw, rows, self.KEYS, 3, 17)
            looks = [look(key) for key in range(self.KEYS)]
            told = run(begin(*rows), *looks, *[part for call in drawn for part in [written(call)] + looks])
            before = told[1:1 + self.KEYS]
            inputs = {}
            for place, call in enumerate(drawn):
                start = 1 + self.KEYS + place * (1 + self.KEYS)
                answer = told[start]
                behind = told[start + 1:start + 1 + self.KEYS]
                if call[0] == "put":
                    inputs.update(zip(call[1][::2], call[1][1::2]))
                else:
                    self.hold(rows, inputs, call, answer, before, behind)
                before = behind

    def hold(self, rows, inputs, call, answer, before, behind):
        so, needs = all_so(rows, inputs)
        done = answer[2:] if answer[0] == 1 else answer[1:]
        now = next((each[3] for each in before if each[0] == 2), None)
        if now is None:
            return
        self.assertEqual(len(done), len(set(done)))
        self.hold_budget(call[1], answer, done)
        turned = [each[2] if each[0] else None for each in behind]
        for key, (old, new) in enumerate(zip(before, behind)):
            if old[0] == 2:
                self.assertEqual(new, old)
            elif key in done:
                self.hold_done(old, new, so[key], needs[key], now, turned)
            elif old != new:
                self.hold_found(old, new, so[key], now, turned)
            if new[0] == 1 and new[3] == now:
                self.assertEqual(new[1], so[key])
                self.assertEqual(new[4:], needs[key])

    def hold_budget(self, budget, answer, done):
        if answer[0] == 0:
            self.assertTrue(len(done) >= budget)
        if budget == 0:
            self.assertEqual(done, [])
        # What ends behind the budget was under way around what ended before it, so its key is above.
        over = done[max(0, budget - 1):]
        self.assertEqual(over, sorted(over))

    def hold_done(self, old, new, so, needs, now, turned):
        """N4, and what is kept of a rule that was done."""
        self.assertEqual(new[:2] + new[3:], [1, so, now] + needs)
        if old[0] == 0 or old[1] != so:
            self.assertEqual(new[2], now)
        else:
            self.assertEqual(new[2], old[2])
        if old[0] == 1:
            self.assertTrue(any(turned[key] > old[3] for key in old[4:]))

    def hold_found(self, old, new, so, now, turned):
        """A rule that was found right and not done."""
        self.assertEqual(new, old[:3] + [now] + old[4:])
        self.assertEqual(new[1], so)
        self.assertTrue(all(turned[key] <= old[3] for key in old[4:]))
