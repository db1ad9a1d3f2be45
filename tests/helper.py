"""What the tests share: calls written down, answers taken apart, and two plain readings of the document."""

from keptanswers.desk import answers

TOP = 4294967295


def need(key):
    return [0, key]


def skip(back, value, count):
    return [1, back, value, count]


def give(plain, latest=0, before=0):
    return [2, plain, latest, before]


def row(key, *steps):
    return [key] + [number for step in steps for number in step]


def begin(*rows):
    flat = [1, 0, len(rows)]
    for each in rows:
        flat += [len(each)] + each
    return flat


def put(*numbers):
    return [2, 0, 1, len(numbers)] + list(numbers)


def ask(budget, key):
    return [3, 2, budget, key, 0]


def look(key):
    return [4, 1, key, 0]


def take_apart(told):
    parts = []
    place = 0
    while place < len(told):
        size = told[place]
        part = told[place + 1:place + 1 + size]
        assert len(part) == size and size > 0, "a count that doesn't hold"
        parts.append(part)
        place += 1 + size
    return parts


def run(*calls):
    """The answers to these calls on one new object, a list for each."""
    flat = [number for call in calls for number in call]
    assert len(calls) <= 200 and len(flat) <= 31000, "more than may be handed in"
    parts = take_apart(answers(flat))
    assert len(parts) == len(calls), "not one answer for each call"
    return parts


def last(*calls):
    return run(*calls)[-1]


# The document's run: its rules, by their rows.
RUN = (
    row(3, need(0), give(0, 2)),
    row(4, need(1), skip(0, 0, 2), need(3), give(1, 1), give(7)),
    row(5, need(4), need(3), give(0, 1, 1)),
)


def steps_of(numbers):
    """The steps of a row that's right."""
    steps = []
    rest = numbers[1:]
    while rest:
        size = 2 if rest[0] == 0 else 4
        steps.append(rest[:size])
        rest = rest[size:]
    return steps


def go_through(steps, value_of):
    """A rule's answer and the keys it needed, where value_of answers a key."""
    values = []
    needed = []
    place = 0
    while place < len(steps):
        step = steps[place]
        place += 1
        padded = values + [0] * 16
        if step[0] == 0:
            needed.append(step[1])
            values = [value_of(step[1])] + values
        elif step[0] == 1:
            if padded[step[1]] == step[2]:
                place += step[3]
        else:
            return (step[1] + step[2] * padded[0] + step[3] * padded[1]) % 2 ** 32, needed
    return 0, needed


def all_so(rows, inputs):
    """What's so of each key and the keys it needs, gone through anew from the inputs alone."""
    rules = {each[0]: steps_of(each) for each in rows}
    so = []
    needs = []
    for key in range(64):
        value, needed = inputs.get(key, 0), []
        if key in rules:
            value, needed = go_through(rules[key], lambda below: so[below])
        so.append(value)
        needs.append(needed)
    return so, needs


class Cut(Exception):
    pass


class Model:
    """The section "What's kept", word by word, with calls within one another."""

    def __init__(self, rows):
        self.rules = {each[0]: steps_of(each) for each in rows}
        self.time = 0
        self.inputs = {key: (0, 0) for key in range(64) if key not in self.rules}
        self.kept = {}

    def put(self, numbers):
        self.time += 1
        for key, value in dict(zip(numbers[::2], numbers[1::2])).items():
            if self.inputs[key][0] != value:
                self.inputs[key] = (value, self.time)
        return [0]

    def ask(self, budget, key):
        done = []
        try:
            return [1, self.bring(key, budget, done)[0]] + done
        except Cut:
            return [0] + done

    def bring(self, key, budget, done):
        """The key's value and when it last turned."""
        if key in self.inputs:
            return self.inputs[key]
        if key not in self.kept:
            return self.do(key, budget, done)
        answer, turned, found, needed = self.kept[key]
        if found != self.time:
            for each in needed:
                if self.bring(each, budget, done)[1] > found:
                    return self.do(key, budget, done)
            self.kept[key] = (answer, turned, self.time, needed)
        return answer, turned

    def do(self, key, budget, done):
        if len(done) >= budget:
            raise Cut()
        answer, needed = go_through(self.rules[key], lambda below: self.bring(below, budget, done)[0])
        turned = self.time
        if key in self.kept and self.kept[key][0] == answer:
            turned = self.kept[key][1]
        self.kept[key] = (answer, turned, self.time, needed)
        done.append(key)
        return answer, turned

    def look(self, key):
        if key in self.inputs:
            return [2, self.inputs[key][0], self.inputs[key][1], self.time]
        if key not in self.kept:
            return [0]
        answer, turned, found, needed = self.kept[key]
        return [1, answer, turned, found] + needed


def draw_step(draw, key, values):
    """One step that a rule of this key may have, over so few values that rules often come to the same."""
    kind = draw.randrange(6)
    if kind <= 2 and key > 0:
        return need(draw.randrange(key))
    if kind <= 4:
        return skip(draw.choice([0, 0, 0, 1, 1, 2, 15]), draw.randrange(values), draw.choice([0, 1, 1, 2, 2, 3, 16]))
    return give(*[draw.choice([0, 0, 1, 1, 2, TOP]) for each in range(3)])


def draw_rows(draw, keys, values):
    """Rules for some of the first so many keys; the lowest are mostly inputs."""
    rows = []
    for key in range(keys):
        if draw.randrange(keys) < key or draw.randrange(12) == 0:
            steps = []
            if key > 0:
                steps = [need(draw.randrange(key)) for each in range(draw.randrange(3))]
            steps += [draw_step(draw, key, values) for each in range(draw.randrange(14))]
            steps += [give(draw.randrange(values), draw.randrange(2), draw.randrange(2))] * draw.randrange(2)
            rows.append(row(key, *steps))
    return rows


def draw_setting(draw, rows, keys, values):
    """Numbers for set: some inputs, at times one of them more than once, at times none."""
    ruled = [each[0] for each in rows]
    free = [key for key in range(keys) if key not in ruled]
    numbers = []
    for each in range(draw.randrange(4) if free else 0):
        numbers += [draw.choice(free), draw.randrange(values)]
    return numbers
