"""Answers kept up to date: inputs, rules over them, and questions with a budget."""

KEY_COUNT = 64
MODULUS = 4294967296

NEED = 0
SKIP = 1
GIVE = 2
STEP_SIZES = (2, 4, 4)
MOST_STEPS = 16
FARTHEST_VALUE = 15
MOST_SKIPPED = 16

BEGIN = 1
SET = 2
ASK = 3


# None stands for a row that's wrong, as an empty list stands for a rule without steps.
def read_steps(row):
    steps = []
    place = 1
    while place < len(row):
        kind = row[place]
        if kind > GIVE:
            return None
        end = place + STEP_SIZES[kind]
        if end > len(row):
            return None
        steps.append(tuple(row[place:end]))
        place = end
    return steps


def step_is_right(step, key):
    if step[0] == NEED:
        return step[1] < key
    if step[0] == SKIP:
        return step[1] <= FARTHEST_VALUE and step[3] <= MOST_SKIPPED
    return True


def read_row(row, key_before):
    if len(row) == 0 or row[0] >= KEY_COUNT or row[0] <= key_before:
        return None
    steps = read_steps(row)
    if steps is None or len(steps) > MOST_STEPS:
        return None
    if not all([step_is_right(step, row[0]) for step in steps]):
        return None
    return steps


# Ends at the first wrong row: each row before it has a key of its own, so the count of rules is that row's number.
def read_rules(rows):
    rules = {}
    key_before = -1
    for row in rows:
        steps = read_row(row, key_before)
        if steps is None:
            return rules
        key_before = row[0]
        rules[key_before] = steps
    return rules


# A key that a question is bringing: its rule is checked first and, only if that asks for it, begun.
class Visit:

    def __init__(self, key):
        self.key = key
        self.begun = False
        # Until the rule is begun, a place among the keys it needed before; from then on, among its steps.
        self.place = 0
        self.needed = []
        self.gained = []

    def value_back(self, distance):
        if distance < len(self.gained):
            return self.gained[distance]
        return 0

    def gain(self, key, value):
        self.needed.append(key)
        self.gained.insert(0, value)
        self.place += 1

    def skip(self, step):
        self.place += 1
        if self.value_back(step[1]) == step[2]:
            self.place += step[3]

    def given(self, step):
        return (step[1] + step[2] * self.value_back(0) + step[3] * self.value_back(1)) % MODULUS


class Question:

    def __init__(self, budget, key):
        self.budget = budget
        self.done = []
        self.stopped = False
        # The innermost is last. This stands in the place of calls within one another, as deep as there are keys.
        self.under_way = [Visit(key)]

    def goes_on(self):
        return len(self.under_way) > 0 and not self.stopped

    def begin_rule(self, visit):
        # Only rules that have ended count here, so what's under way isn't stopped by the budget itself.
        if len(self.done) >= self.budget:
            self.stopped = True
            return
        visit.begun = True
        visit.place = 0


class Keeper:

    def __init__(self, rules):
        self.rules = rules
        self.now = 0
        # Of an input its value, of a rule its kept answer: once they are right, both are read alike.
        self.held = [0] * KEY_COUNT
        self.turned = [0] * KEY_COUNT
        # These two have the keys of the rules that were done, and no others.
        self.found = {}
        self.needed = {}

    def is_right(self, key):
        return key not in self.rules or self.found.get(key, -1) == self.now

    def turn(self, key, value):
        self.held[key] = value
        self.turned[key] = self.now

    def set_inputs(self, pairs):
        if len(pairs) % 2 == 1:
            return [-1]
        # Held against what was there before only when the last of each key is known: one set away and back didn't turn.
        latest = {}
        for place in range(0, len(pairs), 2):
            latest[pairs[place]] = pairs[place + 1]
        for key in latest:
            if key >= KEY_COUNT or key in self.rules:
                return [-1]
        self.now += 1
        for key in latest:
            if latest[key] != self.held[key]:
                self.turn(key, latest[key])
        return [0]

    def ask(self, budget, key):
        if key >= KEY_COUNT:
            return [-1]
        question = Question(budget, key)
        while question.goes_on():
            visit = question.under_way[-1]
            if self.is_right(visit.key):
                question.under_way.pop()
            elif visit.begun:
                self.do_step(question, visit)
            else:
                self.check_rule(question, visit)
        if question.stopped:
            return [0] + question.done
        return [1, self.held[key]] + question.done

    def check_rule(self, question, visit):
        if visit.key not in self.found:
            question.begin_rule(visit)
            return
        needed = self.needed[visit.key]
        if visit.place == len(needed):
            self.found[visit.key] = self.now
        else:
            self.check_needed(question, visit, needed[visit.place])

    def check_needed(self, question, visit, key):
        if not self.is_right(key):
            question.under_way.append(Visit(key))
        elif self.turned[key] > self.found[visit.key]:
            # The keys behind this one aren't brought: with another value here the rule may not need them.
            question.begin_rule(visit)
        else:
            visit.place += 1

    def do_step(self, question, visit):
        steps = self.rules[visit.key]
        if visit.place >= len(steps):
            self.end_rule(question, visit, 0)
            return
        step = steps[visit.place]
        if step[0] == NEED:
            self.do_need(question, visit, step[1])
        elif step[0] == SKIP:
            visit.skip(step)
        else:
            self.end_rule(question, visit, visit.given(step))

    def do_need(self, question, visit, key):
        if self.is_right(key):
            visit.gain(key, self.held[key])
        else:
            question.under_way.append(Visit(key))

    def end_rule(self, question, visit, value):
        key = visit.key
        if key not in self.found or value != self.held[key]:
            self.turn(key, value)
        # All of it is kept here and nowhere before: a rule that's cut leaves what was kept of it as it was.
        self.found[key] = self.now
        self.needed[key] = visit.needed
        question.done.append(key)

    def look(self, key):
        if key >= KEY_COUNT:
            return [-1]
        if key not in self.rules:
            return [2, self.held[key], self.turned[key], self.now]
        if key not in self.found:
            return [0]
        return [1, self.held[key], self.turned[key], self.found[key]] + self.needed[key]


class Desk:

    def __init__(self):
        self.keeper = Keeper({})

    def begin(self, rows):
        rules = read_rules(rows)
        if len(rules) < len(rows):
            return [-1, len(rules)]
        self.keeper = Keeper(rules)
        return [0]

    def reply(self, call, numbers, lists):
        if call == BEGIN:
            return self.begin(lists)
        if call == SET:
            return self.keeper.set_inputs(lists[0])
        if call == ASK:
            return self.keeper.ask(numbers[0], numbers[1])
        return self.keeper.look(numbers[0])


class Reader:

    def __init__(self, flat):
        self.flat = flat
        self.place = 0

    def at_end(self):
        return self.place >= len(self.flat)

    def take_number(self):
        number = self.flat[self.place]
        self.place += 1
        return number

    def take_list(self):
        size = self.take_number()
        start = self.place
        self.place += size
        return self.flat[start:self.place]

    def take_lists(self):
        size = self.take_number()
        lists = []
        while len(lists) < size:
            lists.append(self.take_list())
        return lists


def answers(calls):
    desk = Desk()
    reader = Reader(calls)
    told = []
    while not reader.at_end():
        call = reader.take_number()
        numbers = reader.take_list()
        lists = reader.take_lists()
        answered = desk.reply(call, numbers, lists)
        told.append(len(answered))
        told.extend(answered)
    return told
