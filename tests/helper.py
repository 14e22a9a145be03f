"""Writes calls as the interface wants them, and splits what is answered call by call."""

from dayseries.seriesbook import answers


def series(day, way=0, every=1, steps=1, minute=0, name=0):
    return [0, day, way, every, steps, minute, name]


def move(number, step, day, minute):
    return [1, number, step, day, minute]


def off(number, step):
    return [2, number, step]


def call(number, step, name):
    return [3, number, step, name]


def plain(number, step):
    return [4, number, step]


def cut(number, step):
    return [5, number, step]


def join(number, other):
    return [6, number, other]


def ask_all(*calls):
    """The answers to all calls of one line, a list each."""
    told = answers([number for one in calls for number in one])
    split = []
    at = 0
    while at < len(told):
        behind = at + 1 + told[at]
        split.append(told[at + 1:behind])
        at = behind
    if at != len(told) or len(split) != len(calls):
        raise AssertionError(f"{len(calls)} calls, but answered was {told}")
    return split


def ask(*calls):
    """The one number that each call of a line answers."""
    split = ask_all(*calls)
    for numbers in split:
        if len(numbers) != 1:
            raise AssertionError(f"not one number: {numbers}")
    return [numbers[0] for numbers in split]


def last(*calls):
    """The one number that the last call of a line answers."""
    return ask(*calls)[-1]
