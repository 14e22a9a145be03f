"""Points 12 and 14: one and tell."""

import unittest

from helper import (ask_all, call, cut, join, last_all, move, name, off, one, plain, series, shift, show, tell)

WEEKLY = series(100, 0, 7, 5, 540, 3)
# Day 30 is the 31st of January 2000: steps 1 and 3 have no day.
MONTHLY = series(30, 1, 1, 5, 540, 3)


class One(unittest.TestCase):
    def test_a_plain_one(self):
        self.assertEqual(ask_all(WEEKLY, *[one(0, step) for step in range(5)])[1:],
                         [[0, 100 + 7 * step, 540, 3, 100 + 7 * step] for step in range(5)])
        self.assertEqual(ask_all(MONTHLY, one(0, 2), one(0, 4))[1:], [[0, 90, 540, 3, 90], [0, 151, 540, 3, 151]])

    def test_called_off(self):
        self.assertEqual(last_all(WEEKLY, off(0, 2), one(0, 2)), [1, 114, 540, 3, 114])

    def test_moved(self):
        self.assertEqual(last_all(WEEKLY, move(0, 2, 9, 8), one(0, 2)), [0, 9, 8, 3, 114])
        self.assertEqual(last_all(WEEKLY, move(0, 2, 0, 0), one(0, 2)), [0, 0, 0, 3, 114])
        self.assertEqual(last_all(WEEKLY, move(0, 2, 36524, 1439), one(0, 2)), [0, 36524, 1439, 3, 114])

    def test_named(self):
        for own in (0, 3, 77, 999):
            self.assertEqual(last_all(WEEKLY, call(0, 2, own), one(0, 2)), [0, 114, 540, own, 114])

    def test_all_at_once(self):
        self.assertEqual(last_all(WEEKLY, move(0, 2, 9, 8), off(0, 2), call(0, 2, 77), one(0, 2)),
                         [1, 9, 8, 77, 114])

    def test_plain_again(self):
        self.assertEqual(last_all(WEEKLY, move(0, 2, 9, 8), off(0, 2), call(0, 2, 77), plain(0, 2), one(0, 2)),
                         [0, 114, 540, 3, 114])

    def test_moved_and_moved_again(self):
        self.assertEqual(last_all(WEEKLY, move(0, 2, 9, 8), move(0, 2, 7, 6), one(0, 2)), [0, 7, 6, 3, 114])

    def test_a_refused_move_leaves_it_there(self):
        told = ask_all(WEEKLY, move(0, 2, 9, 8), move(0, 2, 36525, 7), move(0, 2, 7, 1440), one(0, 2))
        self.assertEqual(told[2:], [[-1], [-1], [0, 9, 8, 3, 114]])

    def test_a_refused_call_leaves_its_name(self):
        self.assertEqual(last_all(WEEKLY, call(0, 2, 8), call(0, 2, 1000), one(0, 2)), [0, 114, 540, 8, 114])

    def test_the_series_minute_and_name_as_they_are_now(self):
        told = ask_all(WEEKLY, move(0, 1, 9, 8), call(0, 2, 77), shift(0, 1, 1), name(0, 4), one(0, 0), one(0, 1),
                       one(0, 2))
        self.assertEqual(told[5:], [[0, 101, 541, 4, 101], [0, 9, 8, 4, 108], [0, 115, 541, 77, 115]])

    def test_other_steps_and_series_are_not_touched(self):
        told = ask_all(WEEKLY, WEEKLY, move(0, 2, 9, 8), off(0, 2), call(0, 2, 77), one(0, 1), one(0, 3), one(1, 2))
        self.assertEqual(told[5:], [[0, 107, 540, 3, 107], [0, 121, 540, 3, 121], [0, 114, 540, 3, 114]])

    def test_no_such_series(self):
        for number in (1, 7, 8, 20):
            self.assertEqual(last_all(WEEKLY, one(number, 0)), [-3])
        self.assertEqual(last_all(one(0, 0)), [-3])

    def test_no_such_step_or_none_with_a_day(self):
        for step in (5, 6, 99, 100, 300):
            self.assertEqual(last_all(WEEKLY, one(0, step)), [-4])
        for step in (1, 3, 5):
            self.assertEqual(last_all(MONTHLY, one(0, step)), [-4])
        self.assertEqual(ask_all(series(36523, steps=3), one(0, 1), one(0, 2))[1:], [[0, 36524, 0, 0, 36524], [-4]])

    def test_a_moved_one_that_has_no_day_any_more(self):
        told = ask_all(MONTHLY, shift(0, -1, 0), move(0, 3, 50, 6), one(0, 3), shift(0, 1, 0), one(0, 3))
        self.assertEqual(told[3:], [[0, 50, 6, 3, 120], [30, 540], [-4]])

    def test_no_series_ahead_of_no_step(self):
        self.assertEqual(last_all(WEEKLY, one(1, 300)), [-3])

    def test_it_changes_nothing(self):
        told = ask_all(WEEKLY, off(0, 2), one(0, 2), one(0, 2), tell(0), plain(0, 1), plain(0, 2))
        self.assertEqual(told[2:], [[1, 114, 540, 3, 114]] * 2 + [[100, 0, 7, 5, 540, 3, 4, 1, 2], [0], [1]])


class Tell(unittest.TestCase):
    def test_a_new_one(self):
        self.assertEqual(last_all(WEEKLY, tell(0)), [100, 0, 7, 5, 540, 3, 5, 0])
        self.assertEqual(last_all(MONTHLY, tell(0)), [30, 1, 1, 5, 540, 3, 3, 0])

    def test_edges(self):
        self.assertEqual(last_all(series(0), tell(0)), [0, 0, 1, 1, 0, 0, 1, 0])
        self.assertEqual(last_all(series(36524, 1, 400, 100, 1439, 999), tell(0)),
                         [36524, 1, 400, 100, 1439, 999, 1, 0])

    def test_each_that_may_be_done(self):
        self.assertEqual(last_all(WEEKLY, move(0, 2, 9, 8), tell(0)), [100, 0, 7, 5, 540, 3, 5, 1, 2])
        self.assertEqual(last_all(WEEKLY, call(0, 2, 0), tell(0)), [100, 0, 7, 5, 540, 3, 5, 1, 2])
        self.assertEqual(last_all(WEEKLY, off(0, 2), tell(0)), [100, 0, 7, 5, 540, 3, 4, 1, 2])

    def test_steps_rise_whenever_they_were_done(self):
        told = last_all(WEEKLY, off(0, 4), call(0, 2, 8), move(0, 3, 1, 1), off(0, 0), tell(0))
        self.assertEqual(told, [100, 0, 7, 5, 540, 3, 3, 4, 0, 2, 3, 4])

    def test_each_step_once(self):
        self.assertEqual(last_all(WEEKLY, off(0, 4), call(0, 4, 8), move(0, 4, 1, 1), tell(0)),
                         [100, 0, 7, 5, 540, 3, 4, 1, 4])

    def test_not_those_made_plain(self):
        self.assertEqual(last_all(WEEKLY, off(0, 4), off(0, 1), plain(0, 4), tell(0)),
                         [100, 0, 7, 5, 540, 3, 4, 1, 1])

    def test_nothing_that_was_refused(self):
        told = ask_all(MONTHLY, off(0, 1), move(0, 0, 36525, 0), call(0, 2, 1000), cut(0, 0), shift(0, -31, 0),
                       name(0, 1000), tell(0))
        self.assertEqual(told[1:], [[-4], [-1], [-1], [-2], [-1], [-1], [30, 1, 1, 5, 540, 3, 3, 0]])

    def test_more_than_forty_steps(self):
        told = last_all(series(0, steps=100), *[off(0, step) for step in range(99, 41, -1)], tell(0))
        self.assertEqual(told, [0, 0, 1, 100, 0, 0, 42, 58] + list(range(42, 100)))

    def test_after_shift_and_name(self):
        self.assertEqual(last_all(WEEKLY, off(0, 1), shift(0, 3, -40), name(0, 9), tell(0)),
                         [103, 0, 7, 5, 500, 9, 4, 1, 1])

    def test_after_a_cut(self):
        told = ask_all(WEEKLY, off(0, 4), call(0, 1, 8), move(0, 2, 1, 1), cut(0, 2), tell(0), tell(1))
        self.assertEqual(told[5:], [[100, 0, 7, 2, 540, 3, 2, 1, 1], [114, 0, 7, 3, 540, 3, 2, 2, 0, 2]])

    def test_after_a_join(self):
        told = ask_all(WEEKLY, series(135, 0, 7, 3, 540, 3), off(1, 2), off(0, 4), call(1, 0, 8), move(0, 1, 1, 1),
                       join(0, 1), tell(0), tell(1))
        self.assertEqual(told[6:], [[8], [100, 0, 7, 8, 540, 3, 6, 4, 1, 4, 5, 7], [-3]])

    def test_other_series_are_not_touched(self):
        self.assertEqual(last_all(WEEKLY, WEEKLY, off(0, 1), shift(0, 1, 1), name(0, 9), cut(0, 2), tell(1)),
                         [100, 0, 7, 5, 540, 3, 5, 0])

    def test_how_many_are_shown_is_what_is_shown(self):
        for begin in (WEEKLY, MONTHLY, series(36500, 0, 7, 100), series(59, 1, 12, 100)):
            told = ask_all(begin, off(0, 0), move(0, 4, 1, 1), tell(0), show(0, 40000))
            self.assertEqual(told[3][6], told[4][0], begin)

    def test_no_such_series(self):
        for number in (1, 7, 8, 20):
            self.assertEqual(last_all(WEEKLY, tell(number)), [-3])
        self.assertEqual(last_all(tell(0)), [-3])

    def test_it_changes_nothing(self):
        told = ask_all(WEEKLY, off(0, 1), tell(0), tell(0), show(0, 40000))
        self.assertEqual(told[2], told[3])
        self.assertEqual(told[4][0], 4)


if __name__ == "__main__":
    unittest.main()
