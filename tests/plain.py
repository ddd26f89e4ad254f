"""The document's points by another, slower way: day by day, and from all letters anew each time."""

import calendar
import datetime

from rentroll import errors

START = datetime.date(2000, 1, 1)


def pair_held(terms, day):
    begun = sorted([pair for pair in terms if pair[0] <= day], key=lambda pair: pair[0])
    return begun[-1] if begun else None


def rent_on(steps, gauges, day):
    step = pair_held(steps, day)
    if step is None:
        return 0
    now = pair_held(gauges, day)[1]
    then = pair_held(gauges, step[0])[1]
    return (step[1] * now) // then


def part(rent, day):
    date = START + datetime.timedelta(days=day)
    many = calendar.monthrange(date.year, date.month)[1]
    return rent * date.day // many - rent * (date.day - 1) // many


def owed(steps, gauges, first, last):
    return sum(part(rent_on(steps, gauges, day), day) for day in range(first, last + 1))


def balance(moves, day):
    total = 0
    for at, cents in moves:
        if not at > day:
            total += cents
    return total


def grown(moves, rates, last):
    whole = sum(balance(moves, day) * pair_held(rates, day)[1] for day in range(last + 1))
    return whole // 3650000


def is_number(thing, low, high):
    return type(thing) is int and low <= thing <= high


def is_flat(thing):
    letters = "abcdefghijklmnopqrstuvwxyz"
    return type(thing) is str and 0 < len(thing) < 9 and all(sign in letters for sign in thing)


AMOUNTS = {
    "let": (3, 0, 10 ** 9), "step": (3, 0, 10 ** 9), "gauge": (2, 1, 10 ** 6), "rate": (2, 0, 10 ** 4),
    "paid": (3, 1, 10 ** 9), "kept": (3, 1, 10 ** 9),
}
DAY_AT = {"let": 2, "end": 2, "step": 2, "gauge": 1, "rate": 1, "paid": 2, "kept": 2, "close": 2, "bill": 1}
ABOUT_A_LEASE = ("end", "step", "paid", "kept", "close")


class PlainRoll:
    """A roll that keeps its letters and what was sent, and works out all else from them."""

    def __init__(self):
        self.told = []
        self.sums = {}

    def of(self, name, lease=None):
        return [told for told in self.told if told[0] == name and lease in (None, told[1])]

    def many(self):
        return len(self.of("let"))

    def billed(self):
        return max([day for _, day in self.of("bill")], default=-1)

    def last(self, lease):
        ends = self.of("end", lease)
        return ends[-1][2] if ends else None

    def lease(self, number):
        _, flat, first, _, indexed = self.of("let")[number]
        return (flat, first, self.last(number), indexed)

    def closing(self, lease):
        closes = self.of("close", lease)
        return closes[0][2] if closes else None

    def tenant(self, flat, day):
        for number in range(self.many()):
            other, first, last, _ = self.lease(number)
            if other == flat and first <= day and (last is None or day <= last):
                return number
        return None

    def owed(self, lease, day):
        _, first, last, indexed = self.lease(lease)
        steps = [(first, self.of("let")[lease][3])]
        steps += [(at, rent) for _, _, at, rent in self.of("step", lease)]
        gauges = [(0, 100)]
        if indexed:
            gauges += [told[1:] for told in self.of("gauge")]
        return owed(steps, gauges, first, day if last is None else min(day, last))

    def pledge(self, lease, day):
        moves = [(at, cents) for _, _, at, cents in self.of("paid", lease)]
        moves += [(at, -cents) for _, _, at, cents in self.of("kept", lease)]
        rates = [(0, 0)] + [told[1:] for told in self.of("rate")]
        return balance(moves, day) + grown(moves, rates, day)

    def sent(self, lease):
        return self.sums.get(("rent", lease), 0)

    def given(self, lease):
        return self.sums.get(("pledge", lease), 0)

    def refusal(self, letter):
        name = letter[0]
        if name in ABOUT_A_LEASE and not is_number(letter[1], 0, self.many() - 1):
            return errors.NoLease
        if name == "let" and not is_flat(letter[1]):
            return errors.BadFlat
        day = letter[DAY_AT[name]]
        if not is_number(day, 0, 99999) or name == "end" and day < self.lease(letter[1])[1]:
            return errors.BadDay
        if name in AMOUNTS:
            at, low, high = AMOUNTS[name]
            if not is_number(letter[at], low, high):
                return errors.BadAmount
        if name == "let":
            lasts = [self.last(at) for at, told in enumerate(self.of("let")) if told[1] == letter[1]]
            if any(last is None or last >= day for last in lasts):
                return errors.Taken
            if self.many() == 20:
                return errors.Full
        if name == "end":
            flat, first, _, _ = self.lease(letter[1])
            firsts = [told[2] for told in self.of("let") if told[1] == flat]
            if any(first < other <= day for other in firsts):
                return errors.Taken
        if name == "close" and self.closing(letter[1]) is not None:
            return errors.Done
        if name == "bill" and day < self.billed():
            return errors.Done
        return None

    def tell(self, letter):
        """Give what is sent, or the class of the refusal."""
        refusal = self.refusal(letter)
        if refusal is not None:
            return refusal
        self.told.append(letter)
        answer = []
        for lease in range(self.many()):
            due = [("rent", self.owed(lease, self.billed()))]
            if self.closing(lease) is not None:
                due.append(("pledge", self.pledge(lease, self.closing(lease))))
            for kind, cents in due:
                before = self.sums.get((kind, lease), 0)
                if cents != before:
                    answer.append((kind, lease, cents - before))
                    self.sums[(kind, lease)] = cents
        return answer


def tell(roll, letter):
    """Tell a roll a letter by its method; give the answer, or the class of the refusal."""
    try:
        return getattr(roll, letter[0])(*letter[1:])
    except errors.RentError as refused:
        return type(refused)


def all_of(roll, days=(0, 1, 30, 31, 59, 60, 365, 99999), flats=("a", "b", "abcdefgh")):
    """All that a roll answers to its questions."""
    leases = range(roll.many())
    return {
        "many": roll.many(),
        "billed": roll.billed(),
        "leases": [roll.lease(number) for number in leases],
        "tenants": [roll.tenant(flat, day) for flat in flats for day in days],
        "owed": [roll.owed(number, day) for number in leases for day in days],
        "pledges": [roll.pledge(number, day) for number in leases for day in days],
        "sent": [roll.sent(number) for number in leases],
        "given": [roll.given(number) for number in leases],
        "letters": roll.letters(),
    }
