"""One series, and what has been done to each of its steps."""

from dayseries.days import day_by_days
from dayseries.days import day_by_months

BY_DAYS = 0
BY_MONTHS = 1


class Step:
    def __init__(self):
        self.off = False
        self.moved = None
        self.name = None

    def is_plain(self):
        return not self.off and self.moved is None and self.name is None


class Series:
    # What has been done is kept step by step, not by days: so it goes along with its step
    # when the series is cut or put together, whatever the series' first day is.
    def __init__(self, first, way, every, minute, name, steps):
        self.first = first
        self.way = way
        self.every = every
        self.minute = minute
        self.name = name
        self.steps = steps

    # Answers for steps that the series hasn't, too: join asks for the next one.
    def day_at(self, step):
        behind = step * self.every
        if self.way == BY_MONTHS:
            return day_by_months(self.first, behind)
        return day_by_days(self.first, behind)

    def has_day_at(self, step):
        return step < len(self.steps) and self.day_at(step) is not None

    def name_at(self, step):
        own = self.steps[step].name
        if own is None:
            return self.name
        return own

    def make_plain(self, step):
        self.steps[step] = Step()

    def cut_at(self, step):
        tail = Series(self.day_at(step), self.way, self.every, self.minute, self.name, self.steps[step:])
        self.steps = self.steps[:step]
        return tail

    def goes_on_with(self, other):
        if self.way != other.way or self.every != other.every:
            return False
        if self.minute != other.minute or self.name != other.name:
            return False
        return self.day_at(len(self.steps)) == other.first

    def take_steps(self, other):
        self.steps = self.steps + other.steps
