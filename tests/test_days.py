"""The day of a step, by days and by months, against Python's own calendar."""

import datetime
import unittest

from dayseries.days import month_of, month_start
from helper import ask, last, off, series

FIRST = datetime.date(2000, 1, 1)
LAST_DAY = 36524


def number_of(year, month, day):
    return (datetime.date(year, month, day) - FIRST).days


def by_months(first, behind):
    """The day that's asked, or the refusal where there is none."""
    date = FIRST + datetime.timedelta(days=first)
    months = date.year * 12 + date.month - 1 + behind
    if months >= 2100 * 12:
        return -4
    try:
        return number_of(months // 12, months % 12 + 1, date.day)
    except ValueError:
        return -4


def days_of(first, way, every, steps):
    """The day of each step, through off; as many lines as that takes."""
    begin = series(first, way, every, steps)
    told = []
    for at in range(0, steps, 50):
        told += ask(begin, *[off(0, step) for step in range(at, min(at + 50, steps))])[1:]
    return told


class Calendar(unittest.TestCase):
    def test_each_day_has_its_month(self):
        for day in range(LAST_DAY + 1):
            date = FIRST + datetime.timedelta(days=day)
            month = month_of(day)
            self.assertEqual(month, (date.year - 2000) * 12 + date.month - 1)
            self.assertEqual(month_start(month), day - date.day + 1)

    def test_the_last_month_ends_with_the_last_day(self):
        self.assertEqual(month_start(1200), LAST_DAY + 1)
        self.assertEqual(number_of(2099, 12, 31), LAST_DAY)


class ByDays(unittest.TestCase):
    def test_ordinary(self):
        self.assertEqual(days_of(0, 0, 7, 4), [0, 7, 14, 21])
        self.assertEqual(days_of(12, 0, 1, 3), [12, 13, 14])
        self.assertEqual(days_of(0, 0, 365, 100), [365 * step for step in range(100)])

    def test_up_to_the_last_day(self):
        self.assertEqual(days_of(36522, 0, 1, 4), [36522, 36523, 36524, -4])
        self.assertEqual(days_of(36124, 0, 400, 3), [36124, 36524, -4])
        self.assertEqual(days_of(36125, 0, 400, 2), [36125, -4])
        self.assertEqual(days_of(36524, 0, 1, 100), [36524] + [-4] * 99)


class ByMonths(unittest.TestCase):
    def test_ordinary(self):
        self.assertEqual(days_of(0, 1, 1, 13),
                         [0, 31, 60, 91, 121, 152, 182, 213, 244, 274, 305, 335, 366])
        self.assertEqual(days_of(0, 1, 12, 6), [0, 366, 731, 1096, 1461, 1827])

    def test_the_31st(self):
        # Of the year 2001.
        told = days_of(number_of(2001, 1, 31), 1, 1, 12)
        self.assertEqual([day >= 0 for day in told],
                         [True, False, True, False, True, False, True, True, False, True, False, True])

    def test_the_30th_and_29th_in_february(self):
        self.assertEqual(days_of(number_of(2000, 1, 30), 1, 1, 3), [29, -4, number_of(2000, 3, 30)])
        self.assertEqual(days_of(number_of(2000, 1, 29), 1, 1, 2), [28, number_of(2000, 2, 29)])
        self.assertEqual(days_of(number_of(2001, 1, 29), 1, 1, 2), [number_of(2001, 1, 29), -4])
        self.assertEqual(days_of(number_of(2001, 1, 28), 1, 1, 2)[1], number_of(2001, 2, 28))
        self.assertEqual(days_of(number_of(2096, 1, 29), 1, 1, 2)[1], number_of(2096, 2, 29))

    def test_the_29th_of_february_each_year(self):
        expected = [number_of(2000 + step, 2, 29) if step % 4 == 0 else -4 for step in range(100)]
        self.assertEqual(days_of(59, 1, 12, 100), expected)

    def test_up_to_the_last_month(self):
        december = number_of(2099, 12, 1)
        november = number_of(2099, 11, 1)
        self.assertEqual(days_of(november, 1, 1, 3), [november, december, -4])
        self.assertEqual(days_of(36524, 1, 1, 2), [36524, -4])
        self.assertEqual(days_of(30, 1, 400, 4), [30, by_months(30, 400), by_months(30, 800), -4])
        self.assertEqual(last(series(30, 1, 399, 100), off(0, 99)), -4)

    def test_first_days_of_all_sorts(self):
        firsts = list(range(0, 1600, 13)) + list(range(28, 1500, 29)) + [20000, 36100, 36465, 36493, 36524]
        for first in firsts:
            for every in (1, 5, 12, 37, 400):
                expected = [by_months(first, every * step) for step in range(50)]
                self.assertEqual(days_of(first, 1, every, 50), expected, (first, every))

    def test_a_step_without_a_day_is_counted_all_the_same(self):
        self.assertEqual(days_of(30, 1, 1, 3), [30, -4, 90])


if __name__ == "__main__":
    unittest.main()
