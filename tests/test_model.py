"""Many lines of calls, against a model that's built otherwise: each step carries its own day along."""

import datetime
import random
import unittest

from helper import ask_all

FIRST = datetime.date(2000, 1, 1)
LINES = 4000


def day_behind(first, way, behind):
    if way == 0:
        return first + behind if first + behind <= 36524 else None
    date = FIRST + datetime.timedelta(days=first)
    months = (date.year - 2000) * 12 + date.month - 1 + behind
    if months >= 1200:
        return None
    try:
        return (datetime.date(2000 + months // 12, months % 12 + 1, date.day) - FIRST).days
    except ValueError:
        return None


class Model:
    def __init__(self):
        self.slots = [None] * 8

    def put(self, series):
        number = self.slots.index(None)
        self.slots[number] = series
        return [number]

    def at(self, number):
        return self.slots[number] if number < 8 else None

    def answer(self, call):
        number, *rest = call
        if number == 0:
            return self.series(*rest)
        if number == 10:
            return self.show(*rest)
        if number == 12:
            return self.later(*rest)
        series = self.at(rest[0])
        if series is None or number == 6 and self.at(rest[1]) is None:
            return [-3]
        if number == 6:
            return self.join(series, *rest)
        if number in (7, 8, 9, 13):
            return {7: self.shift, 8: self.name, 9: self.end, 13: self.tell}[number](series, *rest)
        if rest[1] >= len(series["steps"]) or series["steps"][rest[1]]["day"] is None:
            return [-4]
        if number == 5:
            return self.cut(series, rest[1])
        return self.done(number, series, series["steps"][rest[1]], rest[2:])

    def series(self, day, way, every, steps, minute, name):
        if day > 36524 or way > 1 or not 0 < every < 401 or not 0 < steps < 101 or minute > 1439 or name > 999:
            return [-1]
        if None not in self.slots:
            return [-5]
        days = [day_behind(day, way, every * step) for step in range(steps)]
        return self.put({"rule": (way, every, minute, name), "steps": [{"day": day} for day in days]})

    def done(self, number, series, step, rest):
        name = step.get("name", series["rule"][3])
        if number == 1:
            if rest[0] > 36524 or rest[1] > 1439:
                return [-1]
            step["moved"] = rest
        if number == 2:
            if "off" in step:
                return [-2]
            step["off"] = True
        if number == 3:
            if rest[0] > 999:
                return [-1]
            step["name"] = rest[0]
            return [name]
        if number == 4:
            had = int(len(step) > 1)
            for key in ("moved", "off", "name"):
                step.pop(key, None)
            return [had]
        if number == 11:
            return [int("off" in step)] + step.get("moved", [step["day"], series["rule"][2]]) + [name, step["day"]]
        return [step["day"]]

    def cut(self, series, step):
        if step == 0:
            return [-2]
        if None not in self.slots:
            return [-5]
        told = self.put({"rule": series["rule"], "steps": series["steps"][step:]})
        series["steps"] = series["steps"][:step]
        return told

    def join(self, series, number, other_number):
        other = self.at(other_number)
        way, every, minute, name = series["rule"]
        behind = day_behind(series["steps"][0]["day"], way, every * len(series["steps"]))
        if series is other or series["rule"] != other["rule"] or behind != other["steps"][0]["day"]:
            return [-2]
        if len(series["steps"]) + len(other["steps"]) > 100:
            return [-5]
        series["steps"] = series["steps"] + other["steps"]
        self.slots[other_number] = None
        return [len(series["steps"])]

    def shift(self, series, number, days, minutes):
        way, every, minute, name = series["rule"]
        first = series["steps"][0]["day"] + days
        if first not in range(36525) or minute + minutes not in range(1440):
            return [-1]
        series["rule"] = (way, every, minute + minutes, name)
        for at, step in enumerate(series["steps"]):
            step["day"] = day_behind(first, way, every * at)
        return [first, minute + minutes]

    def name(self, series, number, name):
        if name > 999:
            return [-1]
        had = series["rule"][3]
        series["rule"] = series["rule"][:3] + (name,)
        return [had]

    def end(self, series, number):
        self.slots[number] = None
        return [len(self.shown_of(series))]

    def shown_of(self, series):
        return [at for at, step in enumerate(series["steps"]) if step["day"] is not None and "off" not in step]

    def shown(self):
        """From the last key of the order to the first: sorting keeps what's alike as it stood."""
        rows = []
        for number, series in enumerate(self.slots):
            for at in self.shown_of(series) if series else ():
                step = series["steps"][at]
                day, minute = step.get("moved", (step["day"], series["rule"][2]))
                rows.append([day, minute, number, at, step.get("name", series["rule"][3])])
        for key in (3, 2, 1, 0):
            rows.sort(key=lambda row: row[key])
        return rows

    def show(self, first, second):
        rows = [row for row in self.shown() if row[0] in range(first, second + 1)]
        return [len(rows)] + [number for row in rows[:40] for number in row]

    def later(self, day, minute):
        # More minutes than any that's handed in, so that none of them reaches into the next day.
        return next((row for row in self.shown() if row[0] * 5000 + row[1] >= day * 5000 + minute), [-6])

    def tell(self, series, number):
        way, every, minute, name = series["rule"]
        done = [at for at, step in enumerate(series["steps"]) if len(step) > 1]
        return [series["steps"][0]["day"], way, every, len(series["steps"]), minute, name,
                len(self.shown_of(series)), len(done)] + done


class Maker:
    """Lines in which series are often alike or go on where another ends."""

    def __init__(self, seed):
        self.random = random.Random(seed)
        self.rule = (self.random.choice((0, 1)), self.random.choice((1, 1, 2, 7, 12, 400)))
        self.first = self.random.choice((0, 28, 29, 30, 59, 5000, 36000, 36430, 36520))
        self.numbers = self.random.choice((2, 4, 9))

    def some(self, usual, seldom):
        return self.random.choice(usual) if self.random.random() < 0.96 else self.random.choice(seldom)

    def number(self):
        return self.some(range(self.numbers), (7, 8, 20))

    def step(self):
        return self.some(range(6), (30, 49, 50, 99, 100, 300))

    def near(self):
        """A day on which something may be shown."""
        return self.first + self.random.choice((0, 0, 1, 2, 7, 30, 31, 60, 400))

    def series(self):
        way, every = self.rule
        steps = self.some((1, 2, 3, 6, 50, 51), (0, 100, 101, 300))
        behind = day_behind(self.first, way, every * self.random.choice((0, 1, 2, 3, 6, 50, 51)))
        day = self.some((self.first, self.first if behind is None else behind), (0, 36524, 36525, 40000))
        return [0, day, self.some((way,), (0, 1, 2, 9)), self.some((every,), (0, 1, 400, 401, 500)), steps,
                self.some((0,), (1, 1439, 1440)), self.some((0,), (1, 999, 1000))]

    def rest_of(self, kind):
        """The numbers that stand behind the series and the step, or the series alone."""
        if kind == 1:
            return [self.some((0, 36524, min(self.near(), 36524)), (36525,)), self.some((0, 1, 1439), (1440,))]
        if kind == 3:
            return [self.some((0, 5, 999), (1000,))]
        if kind == 7:
            return [self.some((0, 1, -1, 2, -2), (31, -31, 7, 40000, -40000)), self.some((0, 0, 1, -1), (1439, 2000))]
        if kind == 8:
            return [self.some((0, 0, 1), (999, 1000))]
        return []

    def call(self):
        kind = self.random.choice((0, 0, 1, 1, 2, 2, 3, 3, 4, 5, 5, 6, 6, 6, 7, 7, 8, 9, 10, 10, 11, 11, 12, 12, 13))
        if kind == 0:
            return self.series()
        if kind == 6:
            return [6, self.number(), self.number()]
        if kind == 10:
            return [10, self.some((0, self.near()), (36525,)), self.some((40000, self.near()), (0,))]
        if kind == 12:
            return [12, self.some((0, self.near()), (36524, 36525)), self.some((0, 1, 2), (1439, 1440, 2000))]
        place = [self.number()] if kind in (7, 8, 9, 13) else [self.number(), self.step()]
        return [kind] + place + self.rest_of(kind)

    def line(self):
        return [self.series()] + [self.call() for count in range(self.random.randrange(60))]


class AgainstTheModel(unittest.TestCase):
    def test_many_lines(self):
        seen = set()
        for seed in range(LINES):
            line = Maker(seed).line()
            model = Model()
            expected = [model.answer(call) for call in line]
            self.assertEqual(ask_all(*line), expected, (seed, line))
            seen.update((call[0], min(told[0], 0)) for call, told in zip(line, expected))
        # Lines that never reach an answer would prove nothing of it.
        self.assertEqual(seen, {(0, 0), (0, -1), (0, -5),
                                (1, 0), (1, -3), (1, -4), (1, -1),
                                (2, 0), (2, -3), (2, -4), (2, -2),
                                (3, 0), (3, -3), (3, -4), (3, -1),
                                (4, 0), (4, -3), (4, -4),
                                (5, 0), (5, -3), (5, -4), (5, -2), (5, -5),
                                (6, 0), (6, -3), (6, -2), (6, -5),
                                (7, 0), (7, -3), (7, -1),
                                (8, 0), (8, -3), (8, -1),
                                (9, 0), (9, -3),
                                (10, 0),
                                (11, 0), (11, -3), (11, -4),
                                (12, 0), (12, -6),
                                (13, 0), (13, -3)})


if __name__ == "__main__":
    unittest.main()
