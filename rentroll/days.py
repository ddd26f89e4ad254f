"""The calendar: days as whole numbers, and the months in which they stand."""

from rentroll.errors import BadDay

FIRST_YEAR = 2000
LAST_YEAR = 2273
LAST_DAY = 99999
LONGEST_YEAR = 366
LENGTHS = (31, 28, 31, 30, 31, 30, 31, 31, 30, 31, 30, 31)


def is_whole(thing):
    """Tell whether a thing is a whole number; True and False are none."""
    return isinstance(thing, int) and not isinstance(thing, bool)


def is_within(thing, low, high):
    """Tell whether a thing is a whole number from low to high."""
    return is_whole(thing) and low <= thing <= high


def check_day(day):
    """Refuse what is no day."""
    # The message leaves the thing out: to show it may itself fail, as for a very long number.
    if not is_within(day, 0, LAST_DAY):
        raise BadDay("no whole number from 0 to 99999")


def month_days(year, month):
    """Give how many days a month of a year has."""
    if not is_within(year, FIRST_YEAR, LAST_YEAR):
        raise BadDay("no year from 2000 to 2273")
    if not is_within(month, 1, 12):
        raise BadDay("no month from 1 to 12")
    return _length(year, month)


def month_of(day):
    """Give the date of a day, a tuple (year, month, number)."""
    check_day(day)
    # No year is longer than this, so the guess is the day's year or an earlier one.
    year = FIRST_YEAR + day // LONGEST_YEAR
    while _year_start(year + 1) <= day:
        year += 1
    number = day - _year_start(year) + 1
    month = 1
    while number > _length(year, month):
        number -= _length(year, month)
        month += 1
    return (year, month, number)


def day_of(year, month, number):
    """Give the day of a date."""
    if not is_within(number, 1, month_days(year, month)):
        raise BadDay("no number of a day in that month")
    ahead = sum([_length(year, earlier) for earlier in range(1, month)])
    day = _year_start(year) + ahead + number - 1
    # The last year goes on behind the last day.
    check_day(day)
    return day


def _is_leap(year):
    if year % 100 == 0:
        return year % 400 == 0
    return year % 4 == 0


def _length(year, month):
    if month == 2 and _is_leap(year):
        return 29
    return LENGTHS[month - 1]


def _year_start(year):
    years = year - FIRST_YEAR
    # Each quotient counts the years ahead of this one that 4, 100 or 400 divides;
    # the year 2000 is the first of each, so they are rounded up.
    leaps = (years + 3) // 4 - (years + 99) // 100 + (years + 399) // 400
    return 365 * years + leaps
