"""A line of calls, one behind another, and what they answer."""

from dayseries.book import Book

SERIES = 0
MOVE = 1
OFF = 2
CALL = 3
PLAIN = 4
CUT = 5
JOIN = 6
SHIFT = 7
NAME = 8
END = 9
SHOW = 10
ONE = 11
NEXT = 12

# How many numbers stand behind a call's own number, in the order of these, tell (13) last.
ROW_LENGTHS = (6, 4, 2, 3, 2, 2, 2, 3, 2, 1, 2, 2, 2, 1)


def answer_on_step(book, call, row):
    if call == MOVE:
        return book.move_step(row[0], row[1], row[2], row[3])
    if call == OFF:
        return book.call_off_step(row[0], row[1])
    if call == CALL:
        return book.name_step(row[0], row[1], row[2])
    return book.make_step_plain(row[0], row[1])


def answer_on_series(book, call, row):
    if call == SERIES:
        return book.new_series(row[0], row[1], row[2], row[3], row[4], row[5])
    if call == CUT:
        return book.cut_series(row[0], row[1])
    if call == JOIN:
        return book.join_series(row[0], row[1])
    if call == SHIFT:
        return book.shift_series(row[0], row[1], row[2])
    if call == NAME:
        return book.name_series(row[0], row[1])
    return book.end_series(row[0])


def answer_that_tells(book, call, row):
    if call == SHOW:
        return book.show_days(row[0], row[1])
    if call == ONE:
        return book.tell_step(row[0], row[1])
    if call == NEXT:
        return book.next_shown(row[0], row[1])
    return book.tell_series(row[0])


# Each last return above is for the one call that's left: for a number that's no call there is no row length either.
def answer(book, call, row):
    if MOVE <= call <= PLAIN:
        return answer_on_step(book, call, row)
    if call <= END:
        return answer_on_series(book, call, row)
    return answer_that_tells(book, call, row)


def answers(calls):
    book = Book()
    told = []
    at = 0
    while at < len(calls):
        call = calls[at]
        behind = at + 1 + ROW_LENGTHS[call]
        numbers = answer(book, call, calls[at + 1:behind])
        told.append(len(numbers))
        told.extend(numbers)
        at = behind
    return told
