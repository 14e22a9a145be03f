"""Points 8 to 10: shift, name and end."""

import unittest

from helper import (ask, ask_all, call, cut, end, join, last, last_all, move, name, off, one, plain, series, shift,
                    show, shown, tell)

WEEKLY = series(100, 0, 7, 5, 540, 3)
# Day 30 is the 31st of January 2000: steps 1, 3 and 5 have no day, steps 0, 2, 4, 6 and 7 have.
MONTHLY = series(30, 1, 1, 8, 540, 3)


class Shift(unittest.TestCase):
    def test_later_and_earlier(self):
        told = ask_all(WEEKLY, shift(0, 5, 20), tell(0), shift(0, -15, -60), tell(0), shift(0, 0, 0))
        self.assertEqual(told[1:], [[105, 560], [105, 0, 7, 5, 560, 3, 5, 0], [90, 500],
                                    [90, 0, 7, 5, 500, 3, 5, 0], [90, 500]])

    def test_all_its_steps_are_shown_there(self):
        self.assertEqual(shown(series(100, 0, 7, 3, 540, 3), shift(0, -1, 1)),
                         [(99, 541, 0, 0, 3), (106, 541, 0, 1, 3), (113, 541, 0, 2, 3)])

    def test_days_to_the_edges(self):
        for days, told in ((-100, [0, 540]), (-101, [-1]), (-40000, [-1]), (36424, [36524, 540]), (36425, [-1]),
                           (40000, [-1])):
            self.assertEqual(last_all(WEEKLY, shift(0, days, 0)), told, days)

    def test_minutes_to_the_edges(self):
        for minutes, told in ((-540, [100, 0]), (-541, [-1]), (-2000, [-1]), (899, [100, 1439]), (900, [-1]),
                              (2000, [-1])):
            self.assertEqual(last_all(WEEKLY, shift(0, 0, minutes)), told, minutes)

    def test_day_and_minute_to_the_edges_at_once(self):
        self.assertEqual(last_all(WEEKLY, shift(0, -100, -540)), [0, 0])
        self.assertEqual(last_all(WEEKLY, shift(0, 36424, 899)), [36524, 1439])
        for days, minutes in ((-101, 899), (36425, -540), (-100, 900), (36424, -541), (-101, -541), (36425, 900)):
            self.assertEqual(last_all(WEEKLY, shift(0, days, minutes)), [-1], (days, minutes))

    def test_from_one_end_to_the_other(self):
        self.assertEqual(last_all(series(0), shift(0, 36524, 1439)), [36524, 1439])
        self.assertEqual(last_all(series(36524, minute=1439), shift(0, -36524, -1439)), [0, 0])

    def test_minutes_do_not_run_over_into_days(self):
        for minutes in (900, 1440, -541, -1440):
            told = ask_all(WEEKLY, shift(0, 0, minutes), shift(0, 1, minutes), shift(0, -1, minutes), tell(0))
            self.assertEqual(told[1:], [[-1], [-1], [-1], [100, 0, 7, 5, 540, 3, 5, 0]], minutes)

    def test_a_refused_one_changes_nothing(self):
        for refused in (shift(0, -101, 5), shift(0, 5, 900), shift(0, 36425, -5), shift(0, -5, -541)):
            told = ask_all(WEEKLY, off(0, 1), tell(0), show(0, 40000), refused, tell(0), show(0, 40000))
            self.assertEqual(told[4], [-1], refused)
            self.assertEqual(told[5:], told[2:4], refused)

    def test_no_such_series(self):
        for number in (1, 7, 8, 20):
            self.assertEqual(last_all(WEEKLY, shift(number, 1, 1)), [-3])
        self.assertEqual(last_all(shift(0, 0, 0)), [-3])

    def test_no_series_ahead_of_no_such_day(self):
        for days, minutes in ((40000, 0), (0, 2000), (-40000, -2000)):
            self.assertEqual(last_all(WEEKLY, shift(1, days, minutes)), [-3])

    def test_touches_no_other_series(self):
        told = ask_all(WEEKLY, WEEKLY, tell(1), shift(0, 3, 3), tell(1))
        self.assertEqual(told[4], told[2])

    def test_to_where_there_is_another(self):
        self.assertEqual(ask_all(series(5), series(6), shift(0, 1, 0), tell(1))[2:],
                         [[6, 0], [6, 0, 1, 1, 0, 0, 1, 0]])


class DoneStaysBehindAShift(unittest.TestCase):
    def test_by_days(self):
        told = ask_all(WEEKLY, off(0, 1), move(0, 2, 9, 8), call(0, 3, 77), shift(0, 10, 5), tell(0),
                       *[one(0, step) for step in range(5)])
        self.assertEqual(told[5], [110, 0, 7, 5, 545, 3, 4, 3, 1, 2, 3])
        self.assertEqual(told[6:], [[0, 110, 545, 3, 110], [1, 117, 545, 3, 117], [0, 9, 8, 3, 124],
                                    [0, 131, 545, 77, 131], [0, 138, 545, 3, 138]])

    def test_a_moved_one_is_shown_where_it_has_been_moved(self):
        begin = [series(100, 0, 7, 3, 540, 3), move(0, 1, 9, 8)]
        self.assertEqual(shown(*begin, shift(0, 1000, 60)), [(9, 8, 0, 1, 3), (1100, 600, 0, 0, 3),
                                                             (1114, 600, 0, 2, 3)])

    def test_one_called_off_can_not_be_again(self):
        self.assertEqual(ask_all(WEEKLY, off(0, 2), shift(0, 1, 1), off(0, 2), plain(0, 2), off(0, 2))[3:],
                         [[-2], [1], [115]])

    def test_a_step_by_months_gets_a_day_and_loses_it(self):
        # From the 31st to the 30th of January: only the step of February has no day then.
        told = ask_all(MONTHLY, one(0, 1), one(0, 3), shift(0, -1, 0), one(0, 1), one(0, 3), one(0, 2),
                       shift(0, 1, 0), one(0, 3), one(0, 2), tell(0))
        self.assertEqual(told[1:], [[-4], [-4], [29, 540], [-4], [0, 120, 540, 3, 120], [0, 89, 540, 3, 89],
                                    [30, 540], [-4], [0, 90, 540, 3, 90], [30, 1, 1, 8, 540, 3, 5, 0]])

    def test_by_months_what_is_done_stays_with_a_step_that_loses_its_day(self):
        for done, place in ((off(0, 3), [1, 120, 540, 3, 120]), (move(0, 3, 50, 6), [0, 50, 6, 3, 120]),
                            (call(0, 3, 77), [0, 120, 540, 77, 120])):
            told = ask_all(MONTHLY, shift(0, -1, 0), done, one(0, 3), shift(0, 1, 0), tell(0), one(0, 3), plain(0, 3),
                           show(0, 40000), shift(0, -1, 0), tell(0), one(0, 3), plain(0, 3), one(0, 3))
            self.assertEqual(told[3], place)
            # Told, but not shown, and nothing is to be done to it now.
            self.assertEqual(told[5], [30, 1, 1, 8, 540, 3, 5, 1, 3])
            self.assertEqual(told[6:8], [[-4], [-4]])
            self.assertEqual([told[8][at + 3] for at in range(1, len(told[8]), 5)], [0, 2, 4, 6, 7])
            # And with a day again it's as it was.
            self.assertEqual(told[10], [29, 1, 1, 8, 540, 3, 6 if done == off(0, 3) else 7, 1, 3])
            self.assertEqual(told[11:], [place, [1], [0, 120, 540, 3, 120]])

    def test_by_months_to_a_day_that_each_month_has(self):
        # The 31st of January, then the 1st of February.
        told = ask_all(MONTHLY, move(0, 2, 7, 7), off(0, 4), shift(0, 1, 0), tell(0), show(0, 100))
        self.assertEqual(told[4], [31, 1, 1, 8, 540, 3, 7, 2, 2, 4])
        self.assertEqual(told[5], [3, 7, 7, 0, 2, 3, 31, 540, 0, 0, 3, 60, 540, 0, 1, 3])
        self.assertEqual(shown(MONTHLY, move(0, 2, 7, 7), off(0, 4), shift(0, 1, 0))[:4],
                         [(7, 7, 0, 2, 3), (31, 540, 0, 0, 3), (60, 540, 0, 1, 3), (121, 540, 0, 3, 3)])

    def test_a_step_behind_all_days_and_back(self):
        told = ask_all(WEEKLY, off(0, 3), move(0, 4, 5, 5), shift(0, 36424, 0), tell(0), show(0, 40000), one(0, 4),
                       off(0, 3), shift(0, -36424, 0), tell(0), one(0, 4), off(0, 3))
        self.assertEqual(told[4:8], [[36524, 0, 7, 5, 540, 3, 1, 2, 3, 4], [1, 36524, 540, 0, 0, 3], [-4], [-4]])
        self.assertEqual(told[9:], [[100, 0, 7, 5, 540, 3, 4, 2, 3, 4], [0, 5, 5, 3, 128], [-2]])

    def test_it_goes_along_through_a_cut_and_a_join(self):
        # Step 3 has no day on the 31st, but it has been called off on the 30th.
        told = ask_all(MONTHLY, shift(0, -1, 0), off(0, 3), shift(0, 1, 0), cut(0, 2), tell(0), tell(1), join(0, 1),
                       shift(0, -1, 0), one(0, 3), tell(0))
        self.assertEqual(told[4:], [[1], [30, 1, 1, 2, 540, 3, 1, 0], [90, 1, 1, 6, 540, 3, 4, 1, 1], [8], [29, 540],
                                    [1, 120, 540, 3, 120], [29, 1, 1, 8, 540, 3, 6, 1, 3]])


class ShiftAndJoin(unittest.TestCase):
    def test_parts_that_are_shifted_apart_do_not_go_on_as_one(self):
        told = ask_all(WEEKLY, cut(0, 2), shift(1, 1, 0), join(0, 1), shift(1, -1, 1), join(0, 1), shift(1, 0, -1),
                       join(0, 1))
        self.assertEqual(told[2:], [[115, 540], [-2], [114, 541], [-2], [114, 540], [5]])

    def test_both_shifted_alike(self):
        told = ask_all(WEEKLY, cut(0, 2), shift(0, 9, -9), shift(1, 9, -9), join(0, 1), tell(0))
        self.assertEqual(told[4:], [[5], [109, 0, 7, 5, 531, 3, 5, 0]])


class Name(unittest.TestCase):
    def test_answers_the_name_that_it_had(self):
        self.assertEqual(ask(WEEKLY, name(0, 8), name(0, 9), name(0, 9), name(0, 1))[1:], [3, 8, 9, 9])

    def test_it_is_told_and_shown(self):
        told = ask_all(series(5, name=3), name(0, 8), tell(0), one(0, 0), show(5, 5))
        self.assertEqual(told[2:], [[5, 0, 1, 1, 0, 8, 1, 0], [0, 5, 0, 8, 5], [1, 5, 0, 0, 0, 8]])

    def test_edges(self):
        self.assertEqual(ask(WEEKLY, name(0, 999), name(0, 0), name(0, 5))[1:], [3, 999, 0])

    def test_above_999(self):
        for wrong in (1000, 2000):
            told = ask_all(WEEKLY, name(0, wrong), tell(0), name(0, 5))
            self.assertEqual(told[1:], [[-1], [100, 0, 7, 5, 540, 3, 5, 0], [3]])

    def test_no_such_series(self):
        for number in (1, 7, 8, 20):
            self.assertEqual(last(WEEKLY, name(number, 5)), -3)
        self.assertEqual(last(name(0, 5)), -3)

    def test_no_series_ahead_of_no_such_name(self):
        self.assertEqual(last(WEEKLY, name(1, 1000)), -3)
        self.assertEqual(last(name(0, 2000)), -3)

    def test_own_names_stay(self):
        told = ask_all(WEEKLY, call(0, 1, 77), call(0, 2, 3), name(0, 8), one(0, 0), one(0, 1), one(0, 2), tell(0),
                       plain(0, 1), one(0, 1))
        self.assertEqual([numbers[3] for numbers in told[4:7]], [8, 77, 3])
        self.assertEqual(told[7], [100, 0, 7, 5, 540, 8, 5, 2, 1, 2])
        self.assertEqual(told[9], [0, 107, 540, 8, 107])

    def test_it_is_what_call_answers(self):
        self.assertEqual(ask(WEEKLY, name(0, 8), call(0, 0, 1))[1:], [3, 8])

    def test_touches_no_other_series(self):
        told = ask_all(WEEKLY, WEEKLY, name(0, 8), tell(1))
        self.assertEqual(told[3], [100, 0, 7, 5, 540, 3, 5, 0])

    def test_parts_with_other_names_do_not_go_on_as_one(self):
        self.assertEqual(ask(WEEKLY, cut(0, 2), name(1, 8), join(0, 1), name(0, 8), join(0, 1))[2:], [3, -2, 3, 5])


class End(unittest.TestCase):
    def test_answers_how_many_were_shown(self):
        self.assertEqual(last(WEEKLY, end(0)), 5)
        self.assertEqual(last(MONTHLY, end(0)), 5)
        self.assertEqual(last(series(36524, steps=100), end(0)), 1)
        self.assertEqual(last(series(0, steps=100), end(0)), 100)

    def test_none_that_is_called_off_counts(self):
        self.assertEqual(last(WEEKLY, off(0, 1), off(0, 4), move(0, 2, 0, 0), call(0, 3, 0), end(0)), 3)
        self.assertEqual(last(series(5), off(0, 0), end(0)), 0)

    def test_none_without_a_day_counts_even_if_moved(self):
        self.assertEqual(ask_all(MONTHLY, shift(0, -1, 0), move(0, 3, 50, 6), shift(0, 1, 0), end(0))[4], [5])

    def test_it_is_gone(self):
        for gone in (move(0, 0, 1, 1), off(0, 0), call(0, 0, 1), plain(0, 0), cut(0, 1), join(0, 1), join(1, 0),
                     shift(0, 0, 0), name(0, 0), end(0), one(0, 0), tell(0)):
            self.assertEqual(last_all(WEEKLY, WEEKLY, end(0), gone), [-3], gone)
        self.assertEqual(shown(WEEKLY, series(5), end(0)), [(5, 0, 1, 0, 0)])

    def test_no_such_series(self):
        for number in (1, 7, 8, 20):
            self.assertEqual(ask(WEEKLY, end(number), off(0, 0))[1:], [-3, 100])
        self.assertEqual(last(end(0)), -3)

    def test_twice(self):
        self.assertEqual(ask(WEEKLY, end(0), end(0))[1:], [5, -3])

    def test_a_new_one_has_the_number_that_is_free(self):
        begin = [series(day) for day in range(4)]
        self.assertEqual(ask(*begin, end(1), series(9), series(9))[4:], [1, 1, 4])
        self.assertEqual(ask(*begin, end(2), end(0), series(9), series(9), series(9))[4:], [1, 1, 0, 2, 4])
        self.assertEqual(ask(*begin, end(3), series(9))[4:], [1, 3])

    def test_a_cut_takes_the_number_that_is_free(self):
        self.assertEqual(ask(series(0), WEEKLY, end(0), cut(1, 2))[2:], [1, 0])

    def test_nothing_is_left_to_a_new_one(self):
        told = ask_all(WEEKLY, off(0, 1), call(0, 2, 8), move(0, 3, 1, 1), shift(0, 5, 5), name(0, 9), end(0),
                       WEEKLY, tell(0), one(0, 3))
        self.assertEqual(told[7:], [[0], [100, 0, 7, 5, 540, 3, 5, 0], [0, 121, 540, 3, 121]])

    def test_room_for_the_eighth(self):
        told = ask(*[WEEKLY] * 8, WEEKLY, cut(0, 1), end(5), cut(0, 1), WEEKLY, end(7), WEEKLY, WEEKLY)
        self.assertEqual(told[8:], [-5, -5, 5, 5, -5, 5, 7, -5])


if __name__ == "__main__":
    unittest.main()
