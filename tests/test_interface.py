"""The interface: the form of what is handed in and given back."""

import unittest

from dayseries.seriesbook import answers
from helper import call, cut, join, move, off, plain, series

LINE = [series(100, 0, 7, 5, 540, 3), move(0, 1, 9, 9), off(0, 2), off(0, 2), call(0, 3, 8), plain(0, 1), cut(0, 2),
        join(0, 1), cut(0, 0), series(0, 9), off(5, 0), off(0, 300)]
TOLD = [0, 107, 114, -2, 3, 1, 1, 5, -2, -1, -3, -4]


def flat(line):
    return [number for one in line for number in one]


class Interface(unittest.TestCase):
    def test_each_answer_stands_behind_its_count(self):
        self.assertEqual(answers(flat(LINE)), [number for told in TOLD for number in (1, told)])

    def test_one_call_alone(self):
        self.assertEqual(answers([0, 36524, 1, 400, 100, 1439, 999]), [1, 0])
        self.assertEqual(answers([6, 20, 20]), [1, -3])

    def test_whole_numbers_in_a_list(self):
        told = answers(flat(LINE))
        self.assertIs(type(told), list)
        self.assertEqual({type(number) for number in told}, {int})

    def test_what_is_handed_in_stays_as_it_is(self):
        calls = flat(LINE)
        answers(calls)
        self.assertEqual(calls, flat(LINE))

    def test_not_changed_for_a_while_either(self):
        class Watched(list):
            def refuse(self, *numbers):
                raise AssertionError("the list that is handed in has been changed")

            __setitem__ = __delitem__ = __iadd__ = __imul__ = refuse
            append = extend = insert = pop = remove = clear = sort = reverse = refuse

        self.assertEqual(answers(Watched(flat(LINE))), answers(flat(LINE)))

    def test_nothing_is_kept_from_one_time_to_the_next(self):
        calls = flat(LINE)
        once = answers(calls)
        answers(flat([series(5, steps=3), off(0, 1), call(0, 2, 7)]))
        self.assertEqual(answers(calls), once)
        self.assertEqual(answers([2, 0, 0]), [1, -3])

    def test_what_is_given_back_is_a_new_list_each_time(self):
        calls = flat(LINE)
        once = answers(calls)
        once.append(5)
        self.assertEqual(answers(calls), once[:-1])

    def test_the_longest_line(self):
        calls = flat([series(0, steps=100)] * 60)
        self.assertEqual(len(calls), 420)
        self.assertEqual(answers(calls)[1::2], list(range(8)) + [-5] * 52)


if __name__ == "__main__":
    unittest.main()
