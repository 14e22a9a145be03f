"""Point 1: series."""

import unittest

from helper import ask, call, cut, join, last, move, off, plain, series

GOOD = dict(day=100, way=0, every=7, steps=5, minute=540, name=3)


def changed(**numbers):
    return series(**{**GOOD, **numbers})


class NewSeries(unittest.TestCase):
    def test_numbers_rise_from_0(self):
        self.assertEqual(ask(changed(), changed(), changed()), [0, 1, 2])

    def test_nothing_is_done_to_a_new_one(self):
        steps = [plain(0, step) for step in range(5)]
        names = [call(0, step, 9) for step in range(5)]
        self.assertEqual(ask(changed(), *steps, *names)[1:], [0] * 5 + [3] * 5)

    def test_it_has_as_many_steps_as_asked(self):
        self.assertEqual(ask(changed(), off(0, 4), off(0, 5)), [0, 128, -4])

    def test_nothing_is_left_of_one_that_had_the_number(self):
        told = ask(series(0, steps=1), series(1, steps=2), off(1, 0), call(1, 1, 8), join(0, 1),
                   series(1, steps=2), plain(1, 0), call(1, 1, 9))
        self.assertEqual(told[4:], [3, 1, 0, 0])


class Edges(unittest.TestCase):
    def check(self, name, good, bad):
        for number in good:
            self.assertEqual(last(changed(**{name: number})), 0, (name, number))
        for number in bad:
            self.assertEqual(last(changed(**{name: number})), -1, (name, number))

    def test_day(self):
        self.check("day", (0, 1, 36523, 36524), (36525, 40000))

    def test_way(self):
        self.check("way", (0, 1), range(2, 10))

    def test_every(self):
        self.check("every", (1, 2, 399, 400), (0, 401, 500))

    def test_steps(self):
        self.check("steps", (1, 2, 99, 100), (0, 101, 300))

    def test_minute(self):
        self.check("minute", (0, 1, 1438, 1439), (1440, 2000))

    def test_name(self):
        self.check("name", (0, 1, 998, 999), (1000, 2000))

    def test_each_is_held_by_months_too(self):
        for wrong in (dict(day=36525), dict(every=0), dict(every=401), dict(steps=0), dict(steps=101),
                      dict(minute=1440), dict(name=1000)):
            self.assertEqual(last(changed(way=1, **wrong)), -1, wrong)

    def test_a_hundred_steps_are_all_there(self):
        self.assertEqual(ask(series(0, steps=100), off(0, 99), off(0, 100)), [0, 99, -4])

    def test_steps_without_a_day_are_no_refusal(self):
        self.assertEqual(ask(series(36524, 0, 400, 100), series(36524, 1, 400, 100)), [0, 1])

    def test_a_refused_one_takes_no_number(self):
        self.assertEqual(ask(changed(name=1000), off(0, 0), changed()), [-1, -3, 0])


class Eight(unittest.TestCase):
    def test_the_ninth_is_refused(self):
        self.assertEqual(ask(*[changed()] * 10), [0, 1, 2, 3, 4, 5, 6, 7, -5, -5])

    def test_wrong_numbers_are_refused_ahead_of_that(self):
        for wrong in (dict(day=36525), dict(way=2), dict(every=0), dict(every=401), dict(steps=0),
                      dict(steps=101), dict(minute=1440), dict(name=1000)):
            self.assertEqual(last(*[changed()] * 8, changed(**wrong)), -1, wrong)

    def test_a_refused_one_changes_no_other(self):
        told = ask(*[changed()] * 9, *[off(number, 0) for number in range(8)], off(8, 0))
        self.assertEqual(told[9:], [100] * 8 + [-3])

    def test_the_least_free_number_after_a_join(self):
        begin = [series(10), series(20), series(11), series(30)]
        self.assertEqual(ask(*begin, join(0, 2), off(2, 0), series(40), series(50))[4:], [2, -3, 2, 4])

    def test_the_first_number_is_free_again_too(self):
        begin = [series(11), series(10), series(12)]
        told = ask(*begin, join(1, 0), join(1, 2), series(50), series(60), series(70), move(0, 0, 1, 1), off(2, 0))
        self.assertEqual(told[3:], [2, 3, 0, 2, 3, 50, 60])

    def test_room_for_the_eighth_after_a_join(self):
        begin = [series(day) for day in range(8)]
        self.assertEqual(ask(*begin, series(90), join(2, 3), series(90), series(90))[8:], [-5, 2, 3, -5])

    def test_a_cut_takes_the_least_free_number_too(self):
        begin = [series(10), series(20, steps=3), series(11)]
        self.assertEqual(ask(*begin, cut(1, 2), join(0, 2), cut(1, 1))[3:], [3, 2, 2])


if __name__ == "__main__":
    unittest.main()
