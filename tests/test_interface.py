"""The interface: the form of what is handed in and given back."""

import unittest

from dayseries.seriesbook import answers
from helper import call, cut, end, join, move, name, next_from, off, one, plain, series, shift, show, tell

LINE = [series(100, 0, 7, 5, 540, 3), move(0, 1, 9, 9), off(0, 2), off(0, 2), call(0, 3, 8), plain(0, 1), cut(0, 2),
        join(0, 1), cut(0, 0), series(0, 9), off(5, 0), off(0, 300), shift(0, -1, 1), shift(0, 0, 2000), name(0, 4),
        name(0, 1000), show(99, 107), show(1, 0), one(0, 3), one(0, 5), next_from(120, 542), next_from(128, 0), tell(0),
        tell(1), series(5), end(1), end(1)]
TOLD = [[0], [107], [114], [-2], [3], [1], [1], [5], [-2], [-1], [-3], [-4], [99, 541], [-1], [3],
        [-1], [2, 99, 541, 0, 0, 4, 106, 541, 0, 1, 4], [0], [0, 120, 541, 8, 120], [-4], [127, 541, 0, 4, 4], [-6],
        [99, 0, 7, 5, 541, 4, 4, 2, 2, 3], [-3], [1], [1], [-3]]


def flat(line):
    return [number for numbers in line for number in numbers]


class Interface(unittest.TestCase):
    def test_each_answer_stands_behind_its_count(self):
        self.assertEqual(answers(flat(LINE)), [number for told in TOLD for number in [len(told)] + told])

    def test_one_call_alone(self):
        self.assertEqual(answers([0, 36524, 1, 400, 100, 1439, 999]), [1, 0])
        self.assertEqual(answers([6, 20, 20]), [1, -3])
        self.assertEqual(answers([10, 0, 40000]), [1, 0])
        self.assertEqual(answers([12, 0, 0]), [1, -6])
        self.assertEqual(answers([13, 0]), [1, -3])

    def test_the_same_list_handed_in_twice(self):
        calls = flat(LINE)
        self.assertEqual(answers(calls), answers(calls))

    def test_whole_numbers_in_a_list(self):
        told = answers(flat(LINE))
        self.assertIs(type(told), list)
        self.assertEqual({type(number) for number in told}, {int})

    def test_what_is_handed_in_stays_as_it_is(self):
        calls = flat(LINE)
        answers(calls)
        self.assertEqual(calls, flat(LINE))

    def test_not_changed_for_a_while_either(self):
        class Watched(list):
            def refuse(self, *numbers):
                raise AssertionError("the list that is handed in has been changed")

            __setitem__ = __delitem__ = __iadd__ = __imul__ = refuse
            append = extend = insert = pop = remove = clear = sort = reverse = refuse

        self.assertEqual(answers(Watched(flat(LINE))), answers(flat(LINE)))

    def test_nothing_is_kept_from_one_time_to_the_next(self):
        calls = flat(LINE)
        once = answers(calls)
        answers(flat([series(5, steps=3), off(0, 1), call(0, 2, 7)]))
        self.assertEqual(answers(calls), once)
        self.assertEqual(answers([2, 0, 0]), [1, -3])

    def test_what_is_given_back_is_a_new_list_each_time(self):
        calls = flat(LINE)
        once = answers(calls)
        once.append(5)
        self.assertEqual(answers(calls), once[:-1])

    def test_the_longest_line(self):
        calls = flat([series(0, steps=100)] * 60)
        self.assertEqual(len(calls), 420)
        once = answers(calls)
        self.assertEqual(once[1::2], list(range(8)) + [-5] * 52)
        self.assertEqual(calls, flat([series(0, steps=100)] * 60))
        self.assertEqual(answers(calls), once)

    def test_sixty_calls_that_tell_much(self):
        calls = flat([series(0, steps=100)] * 8 + [show(0, 40000)] * 52)
        shown = [number for at in range(40) for number in (at // 8, 0, at % 8, at // 8, 0)]
        expected = flat([1, number] for number in range(8)) + flat([[201, 800] + shown] * 52)
        self.assertEqual(answers(calls), expected)
        self.assertEqual(answers(calls), expected)

    def test_sixty_calls_of_all_sorts(self):
        line = [series(0, 0, 1, 100, 700, 5)] + [numbers for at in range(14) for numbers in (
            move(0, at, at, 0), shift(0, 1, -1), next_from(0, 0), one(0, at))] + [cut(0, 50), join(0, 1), tell(0)]
        self.assertEqual(len(line), 60)
        expected = [1, 0]
        for at in range(14):
            expected += [1, at + at, 2, at + 1, 699 - at, 5, 0, 0, 0, 0, 5, 5, 0, at, 0, 5, at + at + 1]
        expected += [1, 1, 1, 100, 22, 14, 0, 1, 100, 686, 5, 100, 14] + list(range(14))
        self.assertEqual(answers(flat(line)), expected)


if __name__ == "__main__":
    unittest.main()
