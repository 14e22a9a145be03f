"""Points 11 and 13: show and next, and what's shown at all."""

import unittest

from helper import (ask_all, call, cut, end, last_all, move, name, next_from, off, plain, rows_of, series, shift,
                    show, shown, tell)

WEEKLY = series(100, 0, 7, 5, 540, 3)
# Day 30 is the 31st of January 2000: steps 1 and 3 have no day.
MONTHLY = series(30, 1, 1, 5, 540, 3)


class WhatIsShown(unittest.TestCase):
    def test_ordinary(self):
        self.assertEqual(shown(WEEKLY), [(100, 540, 0, 0, 3), (107, 540, 0, 1, 3), (114, 540, 0, 2, 3),
                                         (121, 540, 0, 3, 3), (128, 540, 0, 4, 3)])

    def test_no_step_without_a_day(self):
        self.assertEqual(shown(MONTHLY), [(30, 540, 0, 0, 3), (90, 540, 0, 2, 3), (151, 540, 0, 4, 3)])
        self.assertEqual(shown(series(36523, steps=4)), [(36523, 0, 0, 0, 0), (36524, 0, 0, 1, 0)])

    def test_no_step_without_a_day_even_if_moved(self):
        # On the 30th step 3 has a day, on the 31st it has none.
        told = ask_all(MONTHLY, shift(0, -1, 0), move(0, 3, 50, 6), show(50, 50), shift(0, 1, 0), show(0, 40000),
                       show(50, 50), next_from(50, 6), tell(0))
        self.assertEqual(rows_of(told[3]), [(50, 6, 0, 3, 3)])
        self.assertEqual(rows_of(told[5]), [(30, 540, 0, 0, 3), (90, 540, 0, 2, 3), (151, 540, 0, 4, 3)])
        self.assertEqual(told[6:], [[0], [90, 540, 0, 2, 3], [30, 1, 1, 5, 540, 3, 3, 1, 3]])

    def test_none_called_off(self):
        self.assertEqual([row[3] for row in shown(WEEKLY, off(0, 0), off(0, 3))], [1, 2, 4])
        self.assertEqual([row[3] for row in shown(WEEKLY, off(0, 3), move(0, 3, 0, 0), call(0, 3, 9))], [0, 1, 2, 4])

    def test_called_off_then_plain(self):
        self.assertEqual(shown(WEEKLY, off(0, 3), plain(0, 3)), shown(WEEKLY))

    def test_a_moved_one_stands_where_it_has_been_moved(self):
        self.assertEqual(shown(WEEKLY, move(0, 2, 9, 8), move(0, 0, 36524, 1439)),
                         [(9, 8, 0, 2, 3), (107, 540, 0, 1, 3), (121, 540, 0, 3, 3), (128, 540, 0, 4, 3),
                          (36524, 1439, 0, 0, 3)])
        self.assertEqual(shown(series(100), move(0, 0, 5, 5), move(0, 0, 6, 6)), [(6, 6, 0, 0, 0)])

    def test_to_day_0_and_minute_0(self):
        self.assertEqual(shown(series(100, minute=9), move(0, 0, 0, 0)), [(0, 0, 0, 0, 0)])

    def test_a_moved_one_made_plain_is_back(self):
        self.assertEqual(shown(WEEKLY, move(0, 2, 9, 8), plain(0, 2)), shown(WEEKLY))

    def test_names(self):
        self.assertEqual([row[4] for row in shown(WEEKLY, call(0, 1, 77), call(0, 2, 0), call(0, 3, 3), name(0, 8))],
                         [8, 77, 0, 3, 8])


class Order(unittest.TestCase):
    def test_by_days(self):
        self.assertEqual(shown(series(5, minute=1, name=1), series(4, minute=2, name=2), series(3, minute=3, name=3)),
                         [(3, 3, 2, 0, 3), (4, 2, 1, 0, 2), (5, 1, 0, 0, 1)])

    def test_then_by_minutes(self):
        self.assertEqual(shown(series(5, minute=9), series(5, minute=1000), series(5, minute=8)),
                         [(5, 8, 2, 0, 0), (5, 9, 0, 0, 0), (5, 1000, 1, 0, 0)])

    def test_then_by_the_series_numbers(self):
        # Names would have it the other way round.
        self.assertEqual(shown(*[series(5, name=9 - number) for number in range(8)]),
                         [(5, 0, number, 0, 9 - number) for number in range(8)])

    def test_by_the_numbers_not_by_when_they_came(self):
        self.assertEqual(shown(series(5), series(5), series(5), end(0), end(1), series(5, name=1), series(5, name=2)),
                         [(5, 0, 0, 0, 1), (5, 0, 1, 0, 2), (5, 0, 2, 0, 0)])

    def test_then_by_steps(self):
        done = [move(0, 3, 50, 50), move(0, 1, 50, 50), move(0, 2, 50, 50), call(0, 1, 9), call(0, 3, 1)]
        self.assertEqual(shown(series(100, steps=4), *done),
                         [(50, 50, 0, 1, 9), (50, 50, 0, 2, 0), (50, 50, 0, 3, 1), (100, 0, 0, 0, 0)])

    def test_the_numbers_ahead_of_the_steps(self):
        self.assertEqual(shown(series(100, steps=3), series(102), move(0, 0, 102, 0), move(1, 0, 102, 0)),
                         [(101, 0, 0, 1, 0), (102, 0, 0, 0, 0), (102, 0, 0, 2, 0), (102, 0, 1, 0, 0)])

    def test_a_later_step_moved_ahead_of_others(self):
        self.assertEqual([row[3] for row in shown(WEEKLY, move(0, 4, 99, 1439), move(0, 0, 114, 541))],
                         [4, 1, 2, 0, 3])

    def test_moved_to_a_minute_ahead_or_behind_on_the_same_day(self):
        self.assertEqual(shown(series(5, minute=50), series(5, minute=50), move(1, 0, 5, 49)),
                         [(5, 49, 1, 0, 0), (5, 50, 0, 0, 0)])
        self.assertEqual(shown(series(5, minute=50), series(5, minute=50), move(0, 0, 5, 51)),
                         [(5, 50, 1, 0, 0), (5, 51, 0, 0, 0)])

    def test_all_at_once(self):
        calls = [series(10, 0, 2, 4, 100, 5), series(10, 0, 1, 4, 100, 4), series(16, minute=99, name=3),
                 move(1, 3, 12, 100), move(0, 3, 10, 100), move(1, 0, 16, 99), call(0, 3, 1)]
        self.assertEqual(shown(*calls), [(10, 100, 0, 0, 5), (10, 100, 0, 3, 1), (11, 100, 1, 1, 4),
                                         (12, 100, 0, 1, 5), (12, 100, 1, 2, 4), (12, 100, 1, 3, 4),
                                         (14, 100, 0, 2, 5), (16, 99, 1, 0, 4), (16, 99, 2, 0, 3)])


class Show(unittest.TestCase):
    def test_both_days_too(self):
        for first, second, days in ((100, 128, [100, 107, 114, 121, 128]), (101, 127, [107, 114, 121]),
                                    (107, 107, [107]), (108, 113, []), (0, 100, [100]), (128, 36524, [128]),
                                    (0, 99, []), (129, 36524, [])):
            rows = rows_of(last_all(WEEKLY, show(first, second)))
            self.assertEqual([row[0] for row in rows], days, (first, second))

    def test_all_minutes_of_both_days(self):
        begin = [series(5, minute=0), series(5, minute=1439), series(6, minute=0), series(6, minute=1439)]
        self.assertEqual(last_all(*begin, show(5, 5)), [2, 5, 0, 0, 0, 0, 5, 1439, 1, 0, 0])
        self.assertEqual(last_all(*begin, show(6, 6)), [2, 6, 0, 2, 0, 0, 6, 1439, 3, 0, 0])
        self.assertEqual(last_all(*begin, show(5, 6))[0], 4)

    def test_the_first_and_the_last_day(self):
        begin = [series(0), series(36524, minute=1439, name=999)]
        self.assertEqual(last_all(*begin, show(0, 0)), [1, 0, 0, 0, 0, 0])
        self.assertEqual(last_all(*begin, show(36524, 36524)), [1, 36524, 1439, 1, 0, 999])
        self.assertEqual(last_all(*begin, show(0, 36524))[0], 2)

    def test_the_first_day_behind_the_second(self):
        for first, second in ((128, 100), (101, 100), (107, 100), (40000, 0), (36524, 0)):
            self.assertEqual(last_all(WEEKLY, show(first, second)), [0], (first, second))

    def test_days_above_the_last_one(self):
        begin = series(36524)
        for first, second, count in ((36524, 36525, 1), (0, 40000, 1), (36525, 40000, 0), (40000, 40000, 0),
                                     (36525, 36525, 0), (40000, 36525, 0), (36525, 36524, 0)):
            self.assertEqual(last_all(begin, show(first, second))[0], count, (first, second))

    def test_none(self):
        self.assertEqual(last_all(show(0, 40000)), [0])
        self.assertEqual(last_all(WEEKLY, end(0), show(0, 40000)), [0])
        self.assertEqual(last_all(series(5), off(0, 0), show(0, 40000)), [0])

    def test_up_to_forty(self):
        for count in (1, 39, 40):
            told = last_all(series(0, steps=count), show(0, 40000))
            self.assertEqual(told[0], count)
            self.assertEqual(rows_of(told), [(day, 0, 0, day, 0) for day in range(count)])

    def test_more_than_forty(self):
        for count in (41, 42, 100):
            told = last_all(series(0, steps=count), show(0, 40000))
            self.assertEqual(told[0], count)
            self.assertEqual(rows_of(told), [(day, 0, 0, day, 0) for day in range(40)])

    def test_the_first_forty_in_order_of_all(self):
        told = last_all(series(100, steps=100), series(200, steps=5), series(0, steps=30), move(0, 99, 1, 1),
                        show(1, 40000))
        self.assertEqual(told[0], 134)
        expected = [(1, 0, 2, 1, 0), (1, 1, 0, 99, 0)] + [(day, 0, 2, day, 0) for day in range(2, 30)]
        expected += [(100 + step, 0, 0, step, 0) for step in range(10)]
        self.assertEqual(rows_of(told), expected)

    def test_as_many_as_may_be(self):
        told = last_all(*[series(0, steps=100)] * 8, show(0, 40000), show(10, 19))
        self.assertEqual(told[0], 80)
        told = last_all(*[series(0, steps=100)] * 8, show(0, 40000))
        self.assertEqual(told[0], 800)
        self.assertEqual(rows_of(told), [(at // 8, 0, at % 8, at // 8, 0) for at in range(40)])

    def test_a_moved_one_counts_by_the_day_to_which_it_has_been_moved(self):
        told = ask_all(WEEKLY, move(0, 2, 9, 8), show(9, 9), show(114, 114))
        self.assertEqual(told[2:], [[1, 9, 8, 0, 2, 3], [0]])

    def test_it_changes_nothing(self):
        told = ask_all(WEEKLY, move(0, 2, 9, 8), tell(0), show(0, 40000), show(0, 40000), tell(0))
        self.assertEqual(told[3:5], [told[3]] * 2)
        self.assertEqual(told[5], told[2])


class Next(unittest.TestCase):
    def test_ordinary(self):
        for day, minute, told in ((0, 0, [100, 540, 0, 0, 3]), (101, 0, [107, 540, 0, 1, 3]),
                                  (120, 1439, [121, 540, 0, 3, 3]), (128, 0, [128, 540, 0, 4, 3])):
            self.assertEqual(last_all(WEEKLY, next_from(day, minute)), told, (day, minute))

    def test_at_the_very_day_and_minute(self):
        self.assertEqual(last_all(WEEKLY, next_from(107, 540)), [107, 540, 0, 1, 3])

    def test_a_minute_earlier_and_later(self):
        self.assertEqual(last_all(WEEKLY, next_from(107, 539)), [107, 540, 0, 1, 3])
        self.assertEqual(last_all(WEEKLY, next_from(107, 541)), [114, 540, 0, 2, 3])

    def test_a_later_day_at_an_earlier_minute(self):
        self.assertEqual(last_all(series(5, minute=0), series(6, minute=0), next_from(5, 1)), [6, 0, 1, 0, 0])
        self.assertEqual(last_all(series(5, minute=1439), next_from(4, 1439)), [5, 1439, 0, 0, 0])

    def test_behind_all(self):
        self.assertEqual(last_all(WEEKLY, next_from(128, 540)), [128, 540, 0, 4, 3])
        for day, minute in ((128, 541), (129, 0), (36524, 0), (36524, 1439)):
            self.assertEqual(last_all(WEEKLY, next_from(day, minute)), [-6], (day, minute))

    def test_none_at_all(self):
        self.assertEqual(last_all(next_from(0, 0)), [-6])
        self.assertEqual(last_all(series(5), off(0, 0), next_from(0, 0)), [-6])
        self.assertEqual(last_all(WEEKLY, end(0), next_from(0, 0)), [-6])

    def test_the_very_last_minute(self):
        begin = series(36524, minute=1439)
        self.assertEqual(last_all(begin, next_from(36524, 1439)), [36524, 1439, 0, 0, 0])
        for day, minute in ((36524, 1440), (36525, 0), (40000, 2000)):
            self.assertEqual(last_all(begin, next_from(day, minute)), [-6], (day, minute))

    def test_a_minute_above_the_last_one(self):
        # No minute of that day is there or later; each one of the next day is.
        begin = [series(5, minute=1439), series(6, minute=0)]
        for minute in (1440, 1441, 1500, 2000):
            self.assertEqual(last_all(*begin, next_from(5, minute)), [6, 0, 1, 0, 0], minute)
            self.assertEqual(last_all(*begin, next_from(6, minute)), [-6], minute)

    def test_a_day_above_the_last_one(self):
        for day in (36525, 40000):
            self.assertEqual(last_all(series(36524, minute=1439), WEEKLY, next_from(day, 0)), [-6], day)

    def test_of_several_at_once_the_first_in_order(self):
        self.assertEqual(last_all(series(5, name=9), series(5, name=1), next_from(5, 0)), [5, 0, 0, 0, 9])
        self.assertEqual(last_all(series(6, steps=3), move(0, 2, 5, 5), move(0, 1, 5, 5), call(0, 1, 8),
                                  next_from(0, 0)), [5, 5, 0, 1, 8])

    def test_a_moved_one(self):
        begin = [WEEKLY, move(0, 3, 101, 5)]
        self.assertEqual(last_all(*begin, next_from(101, 5)), [101, 5, 0, 3, 3])
        self.assertEqual(last_all(*begin, next_from(101, 6)), [107, 540, 0, 1, 3])
        self.assertEqual(last_all(*begin, next_from(115, 0)), [128, 540, 0, 4, 3])

    def test_none_called_off_and_none_without_a_day(self):
        self.assertEqual(last_all(WEEKLY, off(0, 0), next_from(0, 0)), [107, 540, 0, 1, 3])
        self.assertEqual(last_all(MONTHLY, next_from(31, 0)), [90, 540, 0, 2, 3])

    def test_from_one_to_the_next(self):
        rows = shown(WEEKLY, MONTHLY, move(0, 4, 60, 7), cut(0, 2))
        asked = [next_from(row[0], row[1] + 1) for row in rows]
        told = ask_all(WEEKLY, MONTHLY, move(0, 4, 60, 7), cut(0, 2), next_from(0, 0), *asked)[4:]
        self.assertEqual(told, [list(row) for row in rows] + [[-6]])


if __name__ == "__main__":
    unittest.main()
