"""Days 0 to 36524 (1 January 2000 to 31 December 2099), and their months, numbered 0 to 1199."""

LAST_DAY = 36524
LAST_MINUTE = 1439
MONTH_COUNT = 1200

# By how many days each month of a common year is behind the first of January.
MONTH_STARTS = (0, 31, 59, 90, 120, 151, 181, 212, 243, 273, 304, 334)


def month_start(month):
    year = month // 12
    start = 365 * year + (year + 3) // 4 + MONTH_STARTS[month % 12]
    if year % 4 == 0 and month % 12 >= 2:
        return start + 1
    return start


def month_of(day):
    # No year is longer than 366 days, so this begins at or ahead of the month that is sought.
    month = 12 * (day // 366)
    while month_start(month + 1) <= day:
        month = month + 1
    return month


def day_by_days(first, behind):
    day = first + behind
    if day > LAST_DAY:
        return None
    return day


def day_by_months(first, behind):
    month = month_of(first)
    target = month + behind
    if target >= MONTH_COUNT:
        return None
    day = month_start(target) + first - month_start(month)
    if day >= month_start(target + 1):
        return None
    return day
