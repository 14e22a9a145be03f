"""Writes calls as the interface wants them, and splits what is answered call by call."""

from dayseries.seriesbook import answers


def series(day, way=0, every=1, steps=1, minute=0, name=0):
    return [0, day, way, every, steps, minute, name]


def move(number, step, day, minute):
    return [1, number, step, day, minute]


def off(number, step):
    return [2, number, step]


def call(number, step, name):
    return [3, number, step, name]


def plain(number, step):
    return [4, number, step]


def cut(number, step):
    return [5, number, step]


def join(number, other):
    return [6, number, other]


def shift(number, days, minutes):
    return [7, number, days, minutes]


def name(number, new):
    return [8, number, new]


def end(number):
    return [9, number]


def show(first, second):
    return [10, first, second]


def one(number, step):
    return [11, number, step]


def next_from(day, minute):
    return [12, day, minute]


def tell(number):
    return [13, number]


def ask_all(*calls):
    """The answers to all calls of one line, a list each."""
    told = answers([number for call_numbers in calls for number in call_numbers])
    split = []
    at = 0
    while at < len(told):
        behind = at + 1 + told[at]
        split.append(told[at + 1:behind])
        at = behind
    if at != len(told) or len(split) != len(calls):
        raise AssertionError(f"{len(calls)} calls, but answered was {told}")
    return split


def ask(*calls):
    """The one number that each call of a line answers."""
    split = ask_all(*calls)
    for numbers in split:
        if len(numbers) != 1:
            raise AssertionError(f"not one number: {numbers}")
    return [numbers[0] for numbers in split]


def last(*calls):
    """The one number that the last call of a line answers."""
    return ask(*calls)[-1]


def last_all(*calls):
    """All numbers that the last call of a line answers."""
    return ask_all(*calls)[-1]


def rows_of(told):
    """What show answers, as rows of five."""
    if len(told) != 1 + 5 * min(told[0], 40):
        raise AssertionError(f"not five numbers of each: {told}")
    return [tuple(told[at:at + 5]) for at in range(1, len(told), 5)]


def shown(*calls):
    """All that's shown at the end of a line (of at most 40), as rows of five."""
    return rows_of(last_all(*calls, show(0, 40000)))
