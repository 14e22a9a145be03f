"""A line of calls, one behind another, and what they answer."""

from dayseries.book import Book

SERIES = 0
MOVE = 1
OFF = 2
CALL = 3
PLAIN = 4
CUT = 5

# How many numbers stand behind a call's own number, in the order of these, join (6) last.
ROW_LENGTHS = (6, 4, 2, 3, 2, 2, 2)


def answer(book, call, row):
    if call == SERIES:
        return book.new_series(row[0], row[1], row[2], row[3], row[4], row[5])
    if call == MOVE:
        return book.move_step(row[0], row[1], row[2], row[3])
    if call == OFF:
        return book.call_off_step(row[0], row[1])
    if call == CALL:
        return book.name_step(row[0], row[1], row[2])
    if call == PLAIN:
        return book.make_step_plain(row[0], row[1])
    if call == CUT:
        return book.cut_series(row[0], row[1])
    # No other is left: for a number that's no call there is no row length either.
    return book.join_series(row[0], row[1])


def answers(calls):
    book = Book()
    told = []
    at = 0
    while at < len(calls):
        call = calls[at]
        behind = at + 1 + ROW_LENGTHS[call]
        numbers = answer(book, call, calls[at + 1:behind])
        told.append(len(numbers))
        told.extend(numbers)
        at = behind
    return told
