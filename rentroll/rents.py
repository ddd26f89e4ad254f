"""Rents: what a month costs on a day, and what is owed for days."""

from rentroll.days import month_days, month_of
from rentroll.spans import spans
from rentroll.terms import held, pair_held


def rent_on(steps, gauges, day):
    """Give the rent of a month as it is on a day."""
    step = pair_held(steps, day)
    if step is None:
        return 0
    return step[1] * held(gauges, day) // held(gauges, step[0])


def part(rent, day):
    """Give the part of a month's rent that is owed for a day."""
    year, month, number = month_of(day)
    many = month_days(year, month)
    return rent * number // many - rent * (number - 1) // many


def owed(steps, gauges, first, last):
    """Give what is owed from one day through another one."""
    total = 0
    for begin, end, step in spans(steps, first, last):
        told_in = held(gauges, step[0])
        for start, stop, gauge in spans(gauges, begin, end):
            rent = step[1] * gauge[1] // told_in
            total += _parts(rent, start, stop)
    return total


def _parts(rent, first, last):
    """Give the sum of the parts of one rent from one day through another one."""
    year, month, number = month_of(first)
    ahead = _parts_through(rent, year, month, number - 1)
    year, month, number = month_of(last)
    return _parts_through(rent, year, month, number) - ahead


def _parts_through(rent, year, month, number):
    # All days of a month together come to its rent, so no sum goes over single days. Where the
    # months are counted from is free: only the difference of two such sums is asked for.
    months = year * 12 + month
    return rent * months + rent * number // month_days(year, month)
