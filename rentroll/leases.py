"""One lease: what is known of it now, and what was sent and given for it."""

from rentroll.pledges import balance, grown
from rentroll.rents import owed

# What is not indexed is reckoned as if money never changed.
STEADY = ((0, 100),)


class Lease:
    """A flat let from a day on."""

    def __init__(self, flat, first, rent, indexed):
        self.flat = flat
        self.first = first
        self.last = None
        self.indexed = indexed
        self.steps = [(first, rent)]
        self.moves = []
        self.closing = None
        self.cents_sent = 0
        self.cents_given = 0

    def lasts_to(self, day):
        """Tell whether the lease is not over ahead of a day."""
        return self.last is None or day <= self.last

    def covers(self, day):
        """Tell whether a day is one of the lease's."""
        return self.first <= day and self.lasts_to(day)

    def owed_through(self, day, gauges):
        """Give what is owed through a day."""
        last = day if self.lasts_to(day) else self.last
        return owed(self.steps, gauges if self.indexed else STEADY, self.first, last)

    def pledge_through(self, day, rates):
        """Give what the pledge comes to through a day."""
        return balance(self.moves, day) + grown(self.moves, rates, day)
