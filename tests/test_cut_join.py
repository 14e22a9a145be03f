"""Points 6 and 7: cut and join."""

import unittest

from helper import (ask, ask_all, call, cut, end, join, last, last_all, move, off, one, plain, rows_of, series, shift,
                    show, shown, tell)

WEEKLY = series(100, 0, 7, 5, 540, 3)
# Day 30 is the 31st of January 2000: steps 1, 3 and 5 have no day.
MONTHLY = series(30, 1, 1, 8, 540, 3)
DONE = [off(0, 0), call(0, 1, 11), move(0, 2, 9, 9), off(0, 3), call(0, 3, 13), call(0, 4, 14)]


class Cut(unittest.TestCase):
    def test_two_series_with_their_days(self):
        told = ask(WEEKLY, cut(0, 2), *[off(0, step) for step in range(3)], *[off(1, step) for step in range(4)])
        self.assertEqual(told[1:], [1, 100, 107, -4, 114, 121, 128, -4])

    def test_at_the_first_and_the_last_step_that_may_be(self):
        self.assertEqual(ask(WEEKLY, cut(0, 1), off(0, 1), off(1, 3), off(1, 4))[1:], [1, -4, 128, -4])
        self.assertEqual(ask(WEEKLY, cut(0, 4), off(0, 3), off(0, 4), off(1, 0), off(1, 1))[1:],
                         [1, 121, -4, 128, -4])

    def test_by_months(self):
        told = ask(MONTHLY, cut(0, 2), *[off(0, step) for step in range(3)], *[off(1, step) for step in range(7)])
        self.assertEqual(told[1:], [1, 30, -4, -4, 90, -4, 151, -4, 212, 243, -4])

    def test_the_last_days(self):
        told = ask(series(36522, 0, 1, 100), cut(0, 2), off(1, 0), off(1, 1), join(0, 1))
        self.assertEqual(told[1:], [1, 36524, -4, 100])

    def test_minute_name_and_way_are_the_same(self):
        told = ask(WEEKLY, cut(0, 2), call(1, 0, 9), series(135, 0, 7, 1, 540, 3), join(1, 2))
        self.assertEqual(told[1:], [1, 3, 2, 4])

    def test_what_has_been_done_stays_with_its_step(self):
        told = ask(WEEKLY, *DONE, cut(0, 2), off(0, 0), call(0, 1, 1), plain(1, 0), off(1, 0), off(1, 1),
                   call(1, 1, 1), call(1, 2, 1), off(1, 2))
        self.assertEqual(told[7:], [1, -2, 11, 1, 114, -2, 13, 14, 128])

    def test_what_is_done_then_touches_the_one_part_alone(self):
        told = ask(WEEKLY, cut(0, 2), off(1, 0), call(1, 1, 9), plain(0, 0), plain(0, 1), off(0, 1), plain(1, 1))
        self.assertEqual(told[4:], [0, 0, 107, 1])

    def test_a_part_is_cut_again(self):
        told = ask(WEEKLY, *DONE, cut(0, 1), cut(1, 2), off(2, 0), call(2, 0, 1), call(2, 1, 1), call(1, 0, 1),
                   plain(1, 1), off(1, 2))
        self.assertEqual(told[7:], [1, 2, -2, 13, 14, 11, 1, -4])

    def test_at_step_0(self):
        self.assertEqual(ask(WEEKLY, cut(0, 0), off(0, 4), off(1, 0))[1:], [-2, 128, -3])

    def test_step_0_is_refused_ahead_of_eight(self):
        self.assertEqual(last(*[WEEKLY] * 8, cut(3, 0)), -2)

    def test_eight(self):
        self.assertEqual(ask(*[WEEKLY] * 8, cut(3, 1), off(3, 4))[8:], [-5, 128])
        self.assertEqual(ask(*[WEEKLY] * 7, cut(3, 1), cut(3, 1))[7:], [7, -4])

    def test_the_eighth_by_cut(self):
        self.assertEqual(ask(*[WEEKLY] * 7, cut(3, 2), cut(3, 1))[7:], [7, -5])


class Join(unittest.TestCase):
    def test_the_seconds_steps_go_on_behind(self):
        told = ask(WEEKLY, series(135, 0, 7, 3, 540, 3), join(0, 1), *[off(0, step) for step in range(4, 9)],
                   off(1, 0))
        self.assertEqual(told[2:], [8, 128, 135, 142, 149, -4, -3])

    def test_what_has_been_done_goes_along(self):
        told = ask(WEEKLY, series(135, 0, 7, 3, 540, 3), call(0, 4, 44), off(1, 0), call(1, 1, 11), move(1, 2, 9, 9),
                   join(0, 1), call(0, 4, 1), off(0, 5), call(0, 6, 1), plain(0, 7), plain(0, 0))
        self.assertEqual(told[6:], [8, 44, -2, 11, 1, 0])

    def test_the_first_one_may_have_the_greater_number(self):
        told = ask(series(135, 0, 7, 3, 540, 3), WEEKLY, off(0, 1), join(1, 0), off(1, 6), off(1, 5), off(0, 0))
        self.assertEqual(told[3:], [8, -2, 135, -3])

    def test_by_months(self):
        told = ask(series(30, 1, 1, 2), series(90, 1, 1, 3), join(0, 1), *[off(0, step) for step in range(6)])
        self.assertEqual(told[2:], [5, 30, -4, 90, -4, 151, -4])

    def test_the_same_one(self):
        self.assertEqual(ask(WEEKLY, join(0, 0), off(0, 4))[1:], [-2, 128])

    def test_each_that_must_be_alike(self):
        self.assertEqual(last(WEEKLY, series(135, 0, 7, 1, 540, 3), join(0, 1)), 6)
        for other in (series(135, 1, 7, 1, 540, 3), series(135, 0, 8, 1, 540, 3), series(135, 0, 7, 1, 541, 3),
                      series(135, 0, 7, 1, 540, 4), series(134, 0, 7, 1, 540, 3), series(136, 0, 7, 1, 540, 3),
                      series(128, 0, 7, 1, 540, 3), series(142, 0, 7, 1, 540, 3)):
            self.assertEqual(ask(WEEKLY, other, join(0, 1), off(0, 5), off(1, 0))[2:], [-2, -4, other[1]], other)

    def test_by_days_and_by_months_to_the_same_day(self):
        self.assertEqual(last(series(0, 0, 31, 1), series(31, 1, 31, 1), join(0, 1)), -2)
        self.assertEqual(last(series(0, 1, 1, 1), series(31, 0, 1, 1), join(0, 1)), -2)
        self.assertEqual(last(series(0, 1, 1, 1), series(31, 1, 1, 1), join(0, 1)), 2)

    def test_own_names_and_moves_need_not_be_alike(self):
        told = ask(series(0), series(1), call(0, 0, 5), move(1, 0, 50, 50), join(0, 1))
        self.assertEqual(told[4], 2)

    def test_not_the_other_way_round(self):
        self.assertEqual(ask(series(0), series(1), join(1, 0), join(0, 1))[2:], [-2, 2])

    def test_the_next_step_would_have_no_day(self):
        # The 31st of January, then the last of February, or the first of March.
        for day in (58, 59, 60, 61, 90):
            self.assertEqual(last(series(30, 1, 1, 1), series(day, 1, 1, 1), join(0, 1)), -2, day)
        for day in (0, 36523, 36524):
            self.assertEqual(last(series(36524), series(day), join(0, 1)), -2, day)
            self.assertEqual(last(series(36524, 1), series(day, 1), join(0, 1)), -2, day)
        self.assertEqual(last(series(36523), series(36524), join(0, 1)), 2)

    def test_the_same_month_by_another_day(self):
        # The 31st of March is the next one but one; the 30th isn't.
        self.assertEqual(last(series(30, 1, 1, 2), series(89, 1, 1, 1), join(0, 1)), -2)
        self.assertEqual(last(series(30, 1, 1, 2), series(90, 1, 1, 1), join(0, 1)), 3)

    def test_up_to_a_hundred_steps(self):
        for first, second, told in ((60, 40, 100), (99, 1, 100), (1, 99, 100), (60, 41, -5), (100, 1, -5),
                                    (1, 100, -5), (100, 100, -5)):
            self.assertEqual(last(series(0, steps=first), series(first, steps=second), join(0, 1)), told)

    def test_a_refused_one_changes_nothing(self):
        told = ask(series(0, steps=60), series(60, steps=41), join(0, 1), off(0, 60), off(1, 40), off(0, 59))
        self.assertEqual(told[2:], [-5, -4, 100, 59])

    def test_the_order_of_the_refusals(self):
        long = series(0, steps=100)
        self.assertEqual(ask(long, join(0, 0), join(1, 1), join(0, 1), join(1, 0))[1:], [-2, -3, -3, -3])
        self.assertEqual(last(long, series(99, steps=100), join(0, 1)), -2)
        self.assertEqual(last(long, series(100, steps=100, name=1), join(0, 1)), -2)
        self.assertEqual(last(series(36425, steps=100), long, join(0, 1)), -2)


class CutAndJoinedAgain(unittest.TestCase):
    def check(self, begin, steps, done, cuts):
        probes = [probe for step in range(steps) for probe in (off(0, step), call(0, step, 77), plain(0, step))]
        plainly = ask(begin, *done, *probes)[1 + len(done):]
        for step in cuts:
            told = ask(begin, *done, cut(0, step), join(0, 1), *probes, off(1, 0))[1 + len(done):]
            self.assertEqual(told, [1, steps] + plainly + [-3], step)

    def test_by_days(self):
        self.check(WEEKLY, 5, DONE, range(1, 5))

    def test_by_months(self):
        done = [off(0, 0), call(0, 2, 5), move(0, 4, 1, 1), off(0, 6), call(0, 7, 6)]
        self.check(MONTHLY, 8, done, (2, 4, 6, 7))

    def test_tell_and_show_and_one_say_the_same(self):
        # Step 3 is called off while it has a day, and has none where the series is cut.
        without_a_day = [shift(0, -1, 0), off(0, 3), move(0, 5, 9, 9), shift(0, 1, 0), call(0, 7, 8)]
        for begin, steps, done, cuts in ((WEEKLY, 5, DONE, (1, 2, 3, 4)), (MONTHLY, 8, without_a_day, (2, 4, 6, 7)),
                                         (series(36510, 0, 7, 5), 5, [off(0, 1), call(0, 2, 8)], (1, 2))):
            probes = [tell(0), show(0, 40000)] + [one(0, step) for step in range(steps)]
            plainly = ask_all(begin, *done, *probes)[1 + len(done):]
            for step in cuts:
                told = ask_all(begin, *done, cut(0, step), join(0, 1), *probes)[1 + len(done):]
                self.assertEqual(told, [[1], [steps]] + plainly, (begin, step))

    def test_in_three_parts_put_together_from_behind(self):
        told = ask(WEEKLY, *DONE, cut(0, 1), cut(1, 2), join(1, 2), join(0, 1), off(0, 0), call(0, 1, 1), plain(0, 2),
                   off(0, 3), call(0, 3, 1), call(0, 4, 1), off(0, 4))
        self.assertEqual(told[7:], [1, 2, 4, 5, -2, 11, 1, -2, 13, 14, 128])

    def test_a_hundred_steps(self):
        told = ask(series(0, 0, 2, 100), off(0, 99), cut(0, 50), off(1, 49), join(0, 1), off(0, 99), off(0, 98))
        self.assertEqual(told[1:], [198, 1, -2, 100, -2, 196])

    def test_the_number_is_free_again(self):
        self.assertEqual(ask(WEEKLY, cut(0, 2), join(0, 1), series(5), off(1, 0))[1:], [1, 5, 1, 5])


class CutShowsWhatItShowed(unittest.TestCase):
    def check(self, begin, done, cuts):
        whole = shown(begin, *done)
        for step in cuts:
            told = ask_all(begin, *done, cut(0, step), show(0, 40000), tell(0), tell(1))
            # The same, but that the second part's steps count from 0 on, under its own number.
            expected = [row if row[3] < step else row[:2] + (1, row[3] - step, row[4]) for row in whole]
            self.assertEqual(rows_of(told[-3]), sorted(expected), (begin, step))
            self.assertEqual(told[-2][6] + told[-1][6], len(whole), (begin, step))

    def test_by_days(self):
        self.check(WEEKLY, [], range(1, 5))
        self.check(WEEKLY, DONE, range(1, 5))

    def test_by_months(self):
        for first in (0, 27, 28, 29):
            self.check(series(first, 1, 1, 30, 5, 6), [off(0, 2), move(0, 3, 800, 8), call(0, 4, 9)], (2, 3, 4, 12, 29))
        self.check(MONTHLY, [off(0, 0), call(0, 2, 5), move(0, 4, 1, 1)], (2, 4, 6, 7))
        self.check(series(59, 1, 12, 30), [off(0, 4), move(0, 8, 1, 1)], (4, 8, 28))

    def test_steps_without_a_day(self):
        self.check(MONTHLY, [shift(0, -1, 0), off(0, 3), move(0, 5, 9, 9), shift(0, 1, 0)], (2, 4, 6, 7))
        self.check(series(36510, 0, 7, 5), [move(0, 1, 1, 1)], (1, 2))

    def test_steps_moved_across_the_cut(self):
        self.check(WEEKLY, [move(0, 4, 0, 0), move(0, 0, 36524, 0)], range(1, 5))

    def test_once_a_part_has_ended_the_other_is_shown_alone(self):
        told = last_all(WEEKLY, *DONE, cut(0, 2), end(0), show(0, 40000))
        self.assertEqual(rows_of(told), [(9, 9, 1, 0, 3), (128, 540, 1, 2, 14)])


if __name__ == "__main__":
    unittest.main()
