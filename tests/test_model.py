"""Many lines of calls, against a model that's built otherwise: each step carries its own day along."""

import datetime
import random
import unittest

from helper import ask

FIRST = datetime.date(2000, 1, 1)
LINES = 4000


def day_behind(first, way, behind):
    if way == 0:
        return first + behind if first + behind <= 36524 else None
    date = FIRST + datetime.timedelta(days=first)
    months = (date.year - 2000) * 12 + date.month - 1 + behind
    if months >= 1200:
        return None
    try:
        return (datetime.date(2000 + months // 12, months % 12 + 1, date.day) - FIRST).days
    except ValueError:
        return None


class Model:
    def __init__(self):
        self.slots = [None] * 8

    def put(self, one):
        number = self.slots.index(None)
        self.slots[number] = one
        return number

    def at(self, number):
        return self.slots[number] if number < 8 else None

    def answer(self, call):
        number, *rest = call
        if number == 0:
            return self.series(*rest)
        if number == 6:
            return self.join(*rest)
        one = self.at(rest[0])
        if one is None:
            return -3
        if rest[1] >= len(one["steps"]) or one["steps"][rest[1]]["day"] is None:
            return -4
        if number == 5:
            return self.cut(one, rest[1])
        return self.done(number, one, one["steps"][rest[1]], rest[2:])

    def series(self, day, way, every, steps, minute, name):
        if day > 36524 or way > 1 or not 0 < every < 401 or not 0 < steps < 101 or minute > 1439 or name > 999:
            return -1
        if None not in self.slots:
            return -5
        days = [day_behind(day, way, every * step) for step in range(steps)]
        return self.put({"rule": (way, every, minute, name), "steps": [{"day": day} for day in days]})

    def done(self, number, one, step, rest):
        if number == 1:
            if rest[0] > 36524 or rest[1] > 1439:
                return -1
            step["moved"] = rest
        if number == 2:
            if "off" in step:
                return -2
            step["off"] = True
        if number == 3:
            if rest[0] > 999:
                return -1
            had = step.get("name", one["rule"][3])
            step["name"] = rest[0]
            return had
        if number == 4:
            had = int(len(step) > 1)
            for key in ("moved", "off", "name"):
                step.pop(key, None)
            return had
        return step["day"]

    def cut(self, one, step):
        if step == 0:
            return -2
        if None not in self.slots:
            return -5
        number = self.put({"rule": one["rule"], "steps": one["steps"][step:]})
        one["steps"] = one["steps"][:step]
        return number

    def join(self, number, other_number):
        one, other = self.at(number), self.at(other_number)
        if one is None or other is None:
            return -3
        way, every, minute, name = one["rule"]
        behind = day_behind(one["steps"][0]["day"], way, every * len(one["steps"]))
        if one is other or one["rule"] != other["rule"] or behind != other["steps"][0]["day"]:
            return -2
        if len(one["steps"]) + len(other["steps"]) > 100:
            return -5
        one["steps"] = one["steps"] + other["steps"]
        self.slots[other_number] = None
        return len(one["steps"])


class Maker:
    """Lines in which series are often alike or go on where another ends."""

    def __init__(self, seed):
        self.random = random.Random(seed)
        self.rule = (self.random.choice((0, 1)), self.random.choice((1, 1, 2, 7, 12, 400)))
        self.first = self.random.choice((0, 28, 29, 30, 59, 5000, 36000, 36430, 36520))
        self.numbers = self.random.choice((2, 4, 9))

    def some(self, usual, seldom):
        return self.random.choice(usual) if self.random.random() < 0.96 else self.random.choice(seldom)

    def number(self):
        return self.some(range(self.numbers), (7, 8, 20))

    def step(self):
        return self.some(range(6), (30, 49, 50, 99, 100, 300))

    def series(self):
        way, every = self.rule
        steps = self.some((1, 2, 3, 6, 50, 51), (0, 100, 101, 300))
        behind = day_behind(self.first, way, every * self.random.choice((0, 1, 2, 3, 6, 50, 51)))
        day = self.some((self.first, self.first if behind is None else behind), (0, 36524, 36525, 40000))
        return [0, day, self.some((way,), (0, 1, 2, 9)), self.some((every,), (0, 1, 400, 401, 500)), steps,
                self.some((0,), (1, 1439, 1440)), self.some((0,), (1, 999, 1000))]

    def call(self):
        kind = self.random.choice((0, 0, 1, 2, 2, 3, 3, 4, 5, 5, 6, 6, 6))
        if kind == 0:
            return self.series()
        if kind == 6:
            return [6, self.number(), self.number()]
        rest = {1: [self.some((0, 36524), (36525,)), self.some((0, 1439), (1440,))],
                3: [self.some((0, 5, 999), (1000,))]}
        return [kind, self.number(), self.step()] + rest.get(kind, [])

    def line(self):
        return [self.series()] + [self.call() for count in range(self.random.randrange(60))]


class AgainstTheModel(unittest.TestCase):
    def test_many_lines(self):
        seen = set()
        for seed in range(LINES):
            line = Maker(seed).line()
            model = Model()
            expected = [model.answer(call) for call in line]
            self.assertEqual(ask(*line), expected, (seed, line))
            seen.update((call[0], min(told, 0)) for call, told in zip(line, expected))
        # Lines that never reach an answer would prove nothing of it.
        self.assertEqual(seen, {(0, 0), (0, -1), (0, -5),
                                (1, 0), (1, -3), (1, -4), (1, -1),
                                (2, 0), (2, -3), (2, -4), (2, -2),
                                (3, 0), (3, -3), (3, -4), (3, -1),
                                (4, 0), (4, -3), (4, -4),
                                (5, 0), (5, -3), (5, -4), (5, -2), (5, -5),
                                (6, 0), (6, -3), (6, -2), (6, -5)})


if __name__ == "__main__":
    unittest.main()
