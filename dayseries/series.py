"""One series, and what has been done to each of its steps."""

from dayseries.days import day_by_days
from dayseries.days import day_by_months

BY_DAYS = 0
BY_MONTHS = 1


class Step:
    def __init__(self):
        self.off = False
        self.moved = None
        self.name = None

    def is_plain(self):
        return not self.off and self.moved is None and self.name is None


class Series:
    # What has been done is kept step by step, not by days: so it goes along with its step
    # when the series is shifted, cut or put together, whatever the series' first day is.
    def __init__(self, first, way, every, minute, name, steps):
        self.first = first
        self.way = way
        self.every = every
        self.minute = minute
        self.name = name
        self.steps = steps

    # Answers for steps that the series hasn't, too: join asks for the next one.
    def day_at(self, step):
        behind = step * self.every
        if self.way == BY_MONTHS:
            return day_by_months(self.first, behind)
        return day_by_days(self.first, behind)

    def has_day_at(self, step):
        return step < len(self.steps) and self.day_at(step) is not None

    def name_at(self, step):
        own = self.steps[step].name
        if own is None:
            return self.name
        return own

    # Where the step is shown, or would be if it weren't called off.
    def place_at(self, step):
        moved = self.steps[step].moved
        if moved is None:
            return (self.day_at(step), self.minute)
        return moved

    # A step without a day isn't shown, even if it has been moved to one.
    def is_shown_at(self, step):
        return not self.steps[step].off and self.has_day_at(step)

    def shown_steps(self):
        return [step for step in range(len(self.steps)) if self.is_shown_at(step)]

    def done_steps(self):
        return [step for step in range(len(self.steps)) if not self.steps[step].is_plain()]

    # The numbers of a row stand in the order in which rows are told, so that rows can be sorted as they are.
    def shown_rows(self, number):
        rows = []
        for step in self.shown_steps():
            place = self.place_at(step)
            rows.append((place[0], place[1], number, step, self.name_at(step)))
        return rows

    def make_plain(self, step):
        self.steps[step] = Step()

    def cut_at(self, step):
        tail = Series(self.day_at(step), self.way, self.every, self.minute, self.name, self.steps[step:])
        self.steps = self.steps[:step]
        return tail

    def goes_on_with(self, other):
        if self.way != other.way or self.every != other.every:
            return False
        if self.minute != other.minute or self.name != other.name:
            return False
        return self.day_at(len(self.steps)) == other.first

    def take_steps(self, other):
        self.steps = self.steps + other.steps
