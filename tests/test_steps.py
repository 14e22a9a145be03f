"""Points 2 to 5 (move, off, call, plain), and what is refused of all calls with a step."""

import unittest

from helper import ask, ask_all, call, cut, join, last, move, off, one, plain, series

WEEKLY = series(100, 0, 7, 5, 540, 3)
# Day 30 is the 31st of January 2000: steps 1 and 3 have no day.
MONTHLY = series(30, 1, 1, 5, 540, 3)


class AllWithAStep(unittest.TestCase):
    def every_call(self, number, step):
        return (move(number, step, 5, 5), off(number, step), call(number, step, 5), plain(number, step),
                cut(number, step), one(number, step))

    def test_no_such_series(self):
        for number in (1, 7, 8, 20):
            for asked in self.every_call(number, 0) + (join(0, number), join(number, 0), join(number, number)):
                self.assertEqual(last(WEEKLY, asked), -3, asked)

    def test_no_series_at_all(self):
        for asked in self.every_call(0, 0) + (join(0, 0), join(0, 1)):
            self.assertEqual(last(asked), -3, asked)

    def test_no_such_step(self):
        for step in (5, 6, 99, 100, 300):
            for asked in self.every_call(0, step):
                self.assertEqual(last(WEEKLY, asked), -4, asked)

    def test_the_month_has_no_such_day(self):
        for step in (1, 3):
            for asked in self.every_call(0, step):
                self.assertEqual(last(MONTHLY, asked), -4, asked)

    def test_behind_all_days(self):
        for begin in (series(36524, 0, 1, 3), series(36524, 1, 1, 3), series(36125, 0, 400, 3)):
            for asked in self.every_call(0, 1):
                self.assertEqual(last(begin, asked), -4, asked)

    def test_no_series_ahead_of_no_step(self):
        for asked in self.every_call(1, 300):
            self.assertEqual(last(WEEKLY, asked), -3, asked)

    def test_no_series_ahead_of_the_calls_own(self):
        for asked in (move(1, 0, 36525, 1440), call(1, 0, 1000), cut(1, 0)):
            self.assertEqual(last(WEEKLY, asked), -3, asked)

    def test_no_step_ahead_of_the_calls_own(self):
        for begin, step in ((WEEKLY, 5), (MONTHLY, 1), (series(36524, 0, 1, 2), 1)):
            for asked in (move(0, step, 36525, 0), move(0, step, 0, 1440), call(0, step, 1000)):
                self.assertEqual(last(begin, asked), -4, asked)
            self.assertEqual(last(*[begin] * 8, cut(0, step)), -4)


class Move(unittest.TestCase):
    def test_answers_the_steps_own_day_each_time(self):
        self.assertEqual(ask(WEEKLY, move(0, 2, 9, 9), move(0, 2, 8, 8), move(0, 3, 7, 7))[1:], [114, 114, 121])

    def test_by_months(self):
        self.assertEqual(ask(MONTHLY, move(0, 2, 9, 9), move(0, 4, 9, 9))[1:], [90, 151])

    def test_edges(self):
        for day, minute in ((0, 0), (36524, 1439), (0, 1439), (36524, 0)):
            self.assertEqual(ask(WEEKLY, move(0, 1, day, minute), plain(0, 1)), [0, 107, 1])

    def test_no_such_place(self):
        for day, minute in ((36525, 0), (40000, 0), (0, 1440), (0, 2000), (36525, 1440)):
            self.assertEqual(ask(WEEKLY, move(0, 1, day, minute), plain(0, 1)), [0, -1, 0])

    def test_touches_no_other_step(self):
        told = ask(WEEKLY, WEEKLY, move(0, 2, 9, 9), *[plain(0, step) for step in range(5)], plain(1, 2))
        self.assertEqual(told[3:], [0, 0, 1, 0, 0, 0])

    def test_to_where_it_is_counts_as_moved(self):
        self.assertEqual(last(WEEKLY, move(0, 0, 100, 540), plain(0, 0)), 1)

    def test_one_that_is_off_stays_off(self):
        self.assertEqual(ask(WEEKLY, off(0, 1), move(0, 1, 9, 9), off(0, 1))[2:], [107, -2])

    def test_it_is_there_through_a_cut_and_a_join(self):
        done = [move(0, 2, 9, 8), move(0, 3, 36524, 1439), move(0, 3, 36525, 7), move(0, 4, 1, 1), plain(0, 4)]
        places = [[0, 107, 540, 3, 107], [0, 9, 8, 3, 114], [0, 36524, 1439, 3, 121], [0, 128, 540, 3, 128]]
        asked = [one(0, step) for step in range(1, 5)]
        told = ask_all(WEEKLY, *done, *asked, cut(0, 3), one(0, 1), one(0, 2), one(1, 0), one(1, 1), join(0, 1), *asked)
        self.assertEqual(told[6:], places + [[1]] + places + [[5]] + places)


class Off(unittest.TestCase):
    def test_answers_the_steps_day(self):
        self.assertEqual(ask(WEEKLY, *[off(0, step) for step in range(5)])[1:], [100, 107, 114, 121, 128])

    def test_by_months(self):
        self.assertEqual(ask(MONTHLY, *[off(0, step) for step in range(5)])[1:], [30, -4, 90, -4, 151])

    def test_also_of_one_that_has_been_moved(self):
        self.assertEqual(last(WEEKLY, move(0, 2, 9, 9), off(0, 2)), 114)

    def test_twice(self):
        self.assertEqual(ask(WEEKLY, off(0, 2), off(0, 2), off(0, 2))[1:], [114, -2, -2])

    def test_touches_no_other_step(self):
        self.assertEqual(ask(WEEKLY, WEEKLY, off(0, 2), off(0, 1), off(0, 3), off(1, 2))[2:], [114, 107, 121, 114])

    def test_again_once_it_is_plain(self):
        self.assertEqual(ask(WEEKLY, off(0, 2), plain(0, 2), off(0, 2), off(0, 2))[1:], [114, 1, 114, -2])


class Call(unittest.TestCase):
    def test_answers_the_name_that_it_had(self):
        self.assertEqual(ask(WEEKLY, call(0, 2, 8), call(0, 2, 9), call(0, 2, 10))[1:], [3, 8, 9])

    def test_edges(self):
        self.assertEqual(ask(WEEKLY, call(0, 2, 0), call(0, 2, 999), call(0, 2, 1))[1:], [3, 0, 999])

    def test_above_999(self):
        for name in (1000, 2000):
            self.assertEqual(ask(WEEKLY, call(0, 2, name), plain(0, 2), call(0, 2, 5))[1:], [-1, 0, 3])

    def test_touches_no_other_step(self):
        told = ask(WEEKLY, WEEKLY, call(0, 2, 8), call(0, 1, 8), call(0, 3, 8), call(1, 2, 8))
        self.assertEqual(told[2:], [3, 3, 3, 3])

    def test_the_series_name_as_its_own_counts_as_done(self):
        self.assertEqual(last(WEEKLY, call(0, 2, 3), plain(0, 2)), 1)

    def test_name_0_as_its_own_counts_as_done(self):
        self.assertEqual(ask(WEEKLY, call(0, 2, 0), plain(0, 2), plain(0, 2), call(0, 2, 1))[2:], [1, 0, 3])

    def test_one_that_is_off_stays_off(self):
        self.assertEqual(ask(WEEKLY, off(0, 1), call(0, 1, 9), off(0, 1))[2:], [3, -2])


class Plain(unittest.TestCase):
    def test_each_alone_counts(self):
        for done in (off(0, 2), move(0, 2, 0, 0), call(0, 2, 0)):
            self.assertEqual(ask(WEEKLY, done, plain(0, 2), plain(0, 2))[2:], [1, 0], done)

    def test_nothing_is_left(self):
        told = ask(WEEKLY, off(0, 2), move(0, 2, 9, 9), call(0, 2, 9), plain(0, 2), plain(0, 2), off(0, 2),
                   call(0, 2, 8))
        self.assertEqual(told[4:], [1, 0, 114, 3])

    def test_touches_no_other_step(self):
        told = ask(WEEKLY, WEEKLY, off(0, 1), off(0, 2), off(1, 2), plain(0, 2), off(0, 1), off(1, 2))
        self.assertEqual(told[5:], [1, -2, -2])

    def test_a_refused_one_changes_nothing(self):
        self.assertEqual(ask(WEEKLY, off(0, 4), plain(0, 5), plain(1, 4), off(0, 4))[2:], [-4, -3, -2])


if __name__ == "__main__":
    unittest.main()
