"""The roll: leases, told by letters, and what is sent behind each of them."""

from rentroll.checks import check_amount, check_flat
from rentroll.days import check_day, is_within
from rentroll.errors import BadDay, Done, Full, NoLease, Taken
from rentroll.leases import Lease

MOST_LEASES = 20
MOST_CENTS = 10 ** 9
MOST_GAUGE = 10 ** 6
MOST_RATE = 10 ** 4


class Roll:
    """Flats let and billed day by day, put right when letters come late."""

    def __init__(self):
        self._leases = []
        self._gauges = [(0, 100)]
        self._rates = [(0, 0)]
        self._billed = -1
        self._letters = []

    def let(self, flat, first, rent, indexed):
        """A flat is let from a day on, at a rent."""
        check_flat(flat)
        check_day(first)
        check_amount(rent, 0, MOST_CENTS)
        self._check_free(flat, first)
        if len(self._leases) >= MOST_LEASES:
            raise Full("there are as many leases as there may be")
        self._leases.append(Lease(flat, first, rent, indexed))
        return self._done(("let", flat, first, rent, indexed))

    def end(self, lease, last):
        """A lease has this last day."""
        ended = self._known(lease)
        check_day(last)
        if last < ended.first:
            raise BadDay("the last day is ahead of the first one")
        self._check_end(ended, last)
        ended.last = last
        return self._done(("end", lease, last))

    def step(self, lease, first, rent):
        """A lease has another rent from a day on."""
        known = self._known(lease)
        check_day(first)
        check_amount(rent, 0, MOST_CENTS)
        known.steps.append((first, rent))
        return self._done(("step", lease, first, rent))

    def gauge(self, first, number):
        """The gauge has another number from a day on."""
        check_day(first)
        check_amount(number, 1, MOST_GAUGE)
        self._gauges.append((first, number))
        return self._done(("gauge", first, number))

    def rate(self, first, hundredths):
        """Pledges grow by another rate from a day on."""
        check_day(first)
        check_amount(hundredths, 0, MOST_RATE)
        self._rates.append((first, hundredths))
        return self._done(("rate", first, hundredths))

    def paid(self, lease, day, cents):
        """Cents came in for a lease's pledge."""
        self._move(lease, day, cents, 1)
        return self._done(("paid", lease, day, cents))

    def kept(self, lease, day, cents):
        """Cents went from a lease's pledge."""
        self._move(lease, day, cents, -1)
        return self._done(("kept", lease, day, cents))

    def close(self, lease, day):
        """A lease's pledge is closed on a day."""
        known = self._known(lease)
        check_day(day)
        if known.closing is not None:
            raise Done("the pledge is closed")
        known.closing = day
        return self._done(("close", lease, day))

    def bill(self, day):
        """The roll is billed through a day."""
        check_day(day)
        if day < self._billed:
            raise Done("the roll is billed through a later day")
        self._billed = day
        return self._done(("bill", day))

    def many(self):
        """Give how many leases there are."""
        return len(self._leases)

    def billed(self):
        """Give the day through which the roll is billed; -1 at first."""
        return self._billed

    def lease(self, number):
        """Give a lease as a tuple (flat, first, last or None, indexed)."""
        known = self._known(number)
        return (known.flat, known.first, known.last, known.indexed)

    def tenant(self, flat, day):
        """Give the number of the lease by which a flat is let on a day, or None."""
        check_flat(flat)
        check_day(day)
        for number, lease in enumerate(self._leases):
            if lease.flat == flat and lease.covers(day):
                return number
        return None

    def owed(self, lease, day):
        """Give what is owed for a lease through a day."""
        known = self._known(lease)
        check_day(day)
        return known.owed_through(day, self._gauges)

    def pledge(self, lease, day):
        """Give what a lease's pledge comes to through a day."""
        known = self._known(lease)
        check_day(day)
        return known.pledge_through(day, self._rates)

    def sent(self, lease):
        """Give what was sent for a lease so far."""
        return self._known(lease).cents_sent

    def given(self, lease):
        """Give what was given of a lease's pledge so far."""
        return self._known(lease).cents_given

    def letters(self):
        """Give the letters that were done, in their order."""
        return list(self._letters)

    def _known(self, number):
        """Give the lease of a number."""
        if not is_within(number, 0, len(self._leases) - 1):
            raise NoLease("no number of a lease")
        return self._leases[number]

    def _check_free(self, flat, first):
        """Refuse to let a flat that is let from a day on, or behind it."""
        for other in self._leases:
            if other.flat == flat and other.lasts_to(first):
                raise Taken("the flat is let on that day or behind it")

    def _check_end(self, ended, last):
        """Refuse a last day that reaches into a later lease of the flat."""
        for other in self._leases:
            if other.flat == ended.flat and ended.first < other.first <= last:
                raise Taken("a later lease of the flat begins on that day or ahead of it")

    def _move(self, lease, day, cents, sign):
        known = self._known(lease)
        check_day(day)
        check_amount(cents, 1, MOST_CENTS)
        known.moves.append((day, sign * cents))

    def _done(self, letter):
        """Keep a letter that was done, and give what is sent behind it."""
        self._letters.append(letter)
        answer = []
        for number, lease in enumerate(self._leases):
            cents = lease.owed_through(self._billed, self._gauges) - lease.cents_sent
            if cents != 0:
                lease.cents_sent += cents
                answer.append(("rent", number, cents))
            if lease.closing is None:
                continue
            cents = lease.pledge_through(lease.closing, self._rates) - lease.cents_given
            if cents != 0:
                lease.cents_given += cents
                answer.append(("pledge", number, cents))
        return answer
