"""Pledges: what came in and went, and what it grew."""

from rentroll.spans import spans

# A rate is told in hundredths of a percent for a year, and a year has 365 days here.
WHOLE = 3650000


def balance(moves, day):
    """Give the sum of all moves whose day is not behind a day."""
    return sum([cents for at, cents in moves if at <= day])


def grown(moves, rates, last):
    """Give what the balance grew from day 0 through a day."""
    total = 0
    for begin, end, known in spans(_balances(moves), 0, last):
        for start, stop, rate in spans(rates, begin, end):
            total += known[1] * rate[1] * (stop - start + 1)
    # Rounded here only: each day by itself would lose its own fraction.
    return total // WHOLE


def _balances(moves):
    """Give the balances as a row of terms; of a day with several moves the last pair holds."""
    row = []
    total = 0
    for day, cents in sorted(moves):
        total += cents
        row.append((day, total))
    return row
