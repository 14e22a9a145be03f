"""The series that there are, by their numbers, and the calls on them."""

from dayseries.days import LAST_DAY
from dayseries.days import LAST_MINUTE
from dayseries.series import BY_DAYS
from dayseries.series import BY_MONTHS
from dayseries.series import Series
from dayseries.series import Step

MOST_SERIES = 8
MOST_STEPS = 100
MOST_EVERY = 400
LAST_NAME = 999
MOST_TOLD = 40

# The refusals. None of the calls changes anything ahead of its last refusal.
NOT_ALLOWED = -1
NOT_FITTING = -2
NO_SERIES = -3
NO_STEP = -4
TOO_MANY = -5
NONE_SHOWN = -6


def is_place(day, minute):
    return 0 <= day <= LAST_DAY and 0 <= minute <= LAST_MINUTE


def is_rule(way, every, steps):
    return way in (BY_DAYS, BY_MONTHS) and 1 <= every <= MOST_EVERY and 1 <= steps <= MOST_STEPS


class Book:
    def __init__(self):
        self.kept = {}

    def free_number(self):
        for number in range(MOST_SERIES):
            if number not in self.kept:
                return number
        return None

    # The refusal that all calls with a step have ahead of their own, or 0.
    def step_refusal(self, number, step):
        if number not in self.kept:
            return NO_SERIES
        if not self.kept[number].has_day_at(step):
            return NO_STEP
        return 0

    def new_series(self, day, way, every, steps, minute, name):
        if not is_place(day, minute) or not is_rule(way, every, steps) or name > LAST_NAME:
            return [NOT_ALLOWED]
        number = self.free_number()
        if number is None:
            return [TOO_MANY]
        self.kept[number] = Series(day, way, every, minute, name, [Step() for step in range(steps)])
        return [number]

    def move_step(self, number, step, day, minute):
        refusal = self.step_refusal(number, step)
        if refusal < 0:
            return [refusal]
        if not is_place(day, minute):
            return [NOT_ALLOWED]
        series = self.kept[number]
        done = series.steps[step]
        done.moved = (day, minute)
        return [series.day_at(step)]

    def call_off_step(self, number, step):
        refusal = self.step_refusal(number, step)
        if refusal < 0:
            return [refusal]
        series = self.kept[number]
        done = series.steps[step]
        if done.off:
            return [NOT_FITTING]
        done.off = True
        return [series.day_at(step)]

    def name_step(self, number, step, name):
        refusal = self.step_refusal(number, step)
        if refusal < 0:
            return [refusal]
        if name > LAST_NAME:
            return [NOT_ALLOWED]
        series = self.kept[number]
        before = series.name_at(step)
        done = series.steps[step]
        done.name = name
        return [before]

    def make_step_plain(self, number, step):
        refusal = self.step_refusal(number, step)
        if refusal < 0:
            return [refusal]
        series = self.kept[number]
        if series.steps[step].is_plain():
            return [0]
        series.make_plain(step)
        return [1]

    def cut_series(self, number, step):
        refusal = self.step_refusal(number, step)
        if refusal < 0:
            return [refusal]
        if step == 0:
            return [NOT_FITTING]
        tail_number = self.free_number()
        if tail_number is None:
            return [TOO_MANY]
        series = self.kept[number]
        self.kept[tail_number] = series.cut_at(step)
        return [tail_number]

    def join_series(self, number, other_number):
        if number not in self.kept or other_number not in self.kept:
            return [NO_SERIES]
        series = self.kept[number]
        other = self.kept[other_number]
        if number == other_number or not series.goes_on_with(other):
            return [NOT_FITTING]
        if len(series.steps) + len(other.steps) > MOST_STEPS:
            return [TOO_MANY]
        series.take_steps(other)
        self.kept.pop(other_number)
        return [len(series.steps)]

    def shift_series(self, number, days, minutes):
        if number not in self.kept:
            return [NO_SERIES]
        series = self.kept[number]
        first = series.first + days
        # Minutes don't run over into another day: behind a day's last minute there's no such minute.
        minute = series.minute + minutes
        if not is_place(first, minute):
            return [NOT_ALLOWED]
        series.first = first
        series.minute = minute
        return [first, minute]

    def name_series(self, number, name):
        if number not in self.kept:
            return [NO_SERIES]
        if name > LAST_NAME:
            return [NOT_ALLOWED]
        series = self.kept[number]
        before = series.name
        series.name = name
        return [before]

    def end_series(self, number):
        if number not in self.kept:
            return [NO_SERIES]
        series = self.kept.pop(number)
        return [len(series.shown_steps())]

    def all_shown(self):
        rows = []
        for number, series in self.kept.items():
            rows.extend(series.shown_rows(number))
        return sorted(rows)

    def show_days(self, first, last):
        rows = [row for row in self.all_shown() if first <= row[0] <= last]
        told = [len(rows)]
        for row in rows[:MOST_TOLD]:
            told.extend(row)
        return told

    def tell_step(self, number, step):
        refusal = self.step_refusal(number, step)
        if refusal < 0:
            return [refusal]
        series = self.kept[number]
        place = series.place_at(step)
        off = 1 if series.steps[step].off else 0
        return [off, place[0], place[1], series.name_at(step), series.day_at(step)]

    def next_shown(self, day, minute):
        for row in self.all_shown():
            if (row[0], row[1]) >= (day, minute):
                return list(row)
        return [NONE_SHOWN]

    def tell_series(self, number):
        if number not in self.kept:
            return [NO_SERIES]
        series = self.kept[number]
        done = series.done_steps()
        told = [series.first, series.way, series.every, len(series.steps), series.minute, series.name]
        return told + [len(series.shown_steps()), len(done)] + done
