"""What is refused, in which order, and that it changes nothing (11)."""

import unittest

import plain
from rentroll.errors import BadAmount, BadDay, BadFlat, Done, Full, NoLease, RentError, Taken
from rentroll.rolls import Roll
from things import Contrary, far_numbers, no_amounts, no_days, no_flats, no_leases, no_numbers

MOST = 10 ** 9

# For each letter: what can be told, with the place of the lease, the flat, the day, and the amount with its bounds.
LETTERS = {
    "let": (["z", 50, 100, True], None, 0, 1, (2, 0, MOST)),
    "end": ([0, 70], 0, None, 1, None),
    "step": ([0, 50, 100], 0, None, 1, (2, 0, MOST)),
    "gauge": ([50, 100], None, None, 0, (1, 1, 10 ** 6)),
    "rate": ([50, 100], None, None, 0, (1, 0, 10 ** 4)),
    "paid": ([0, 50, 100], 0, None, 1, (2, 1, MOST)),
    "kept": ([0, 50, 100], 0, None, 1, (2, 1, MOST)),
    "close": ([0, 50], 0, None, 1, None),
    "bill": ([95], None, None, 0, None),
}
QUESTIONS = {
    "lease": ([0], 0, None, None), "tenant": (["a", 50], None, 0, 1), "owed": ([0, 50], 0, None, 1),
    "pledge": ([0, 50], 0, None, 1), "sent": ([0], 0, None, None), "given": ([0], 0, None, None),
}


def some_roll():
    """A roll with three leases, the last one of the first one's flat; the second one's pledge is closed."""
    roll = Roll()
    for letter in [
        ("let", "a", 10, 3100, True), ("end", 0, 80), ("let", "b", 0, 5000, False), ("let", "a", 100, 777, True),
        ("gauge", 20, 107), ("rate", 5, 250), ("paid", 0, 10, 50000), ("paid", 1, 0, 90000), ("kept", 1, 60, 500),
        ("close", 1, 65), ("step", 0, 40, 3333), ("bill", 90),
    ]:
        getattr(roll, letter[0])(*letter[1:])
    return roll


class RefusalTest(unittest.TestCase):
    def refused(self, roll, error, name, *told):
        before = plain.all_of(roll)
        with self.assertRaises(RentError) as caught:
            getattr(roll, name)(*told)
        self.assertIs(type(caught.exception), error)
        self.assertEqual(plain.all_of(roll), before)

    def each(self, roll, error, name, at, things):
        good = (LETTERS.get(name) or QUESTIONS.get(name))[0]
        for word, thing in things:
            with self.subTest(name=name, thing=word):
                told = list(good)
                told[at] = thing
                self.refused(roll, error, name, *told)

    def test_what_is_told_here_can_be_done(self):
        for name, row in LETTERS.items():
            roll = some_roll()
            many = len(roll.letters())
            self.assertIsInstance(getattr(roll, name)(*row[0]), list)
            self.assertEqual(roll.letters()[many:], [(name, *row[0])])
        for name, row in QUESTIONS.items():
            getattr(some_roll(), name)(*row[0])

    def test_no_lease(self):
        roll = some_roll()
        for name, row in [*LETTERS.items(), *QUESTIONS.items()]:
            if row[1] is not None:
                self.each(roll, NoLease, name, row[1], no_leases(3))

    def test_no_lease_at_all(self):
        for name, row in [*LETTERS.items(), *QUESTIONS.items()]:
            if row[1] is not None:
                self.each(Roll(), NoLease, name, row[1], [("0", 0), *no_leases(0)])

    def test_a_number_is_refused_no_more_once_a_lease_has_it(self):
        roll = Roll()
        for number, flat in enumerate(("a", "b", "c")):
            for name, told in [("lease", ()), ("sent", ()), ("given", ()), ("owed", (5,)), ("pledge", (5,)),
                               ("paid", (5, 5)), ("step", (5, 5)), ("close", (5,)), ("end", (5,))]:
                self.refused(roll, NoLease, name, number, *told)
            roll.let(flat, 0, 31, True)
            for name, told in [("paid", (5, 5)), ("step", (5, 62)), ("close", (5,)), ("end", (5,)), ("kept", (5, 1))]:
                getattr(roll, name)(number, *told)
            self.assertEqual(roll.lease(number), (flat, 0, 5, True))
            self.assertEqual([roll.owed(number, 9), roll.pledge(number, 9)], [7, 4])
            self.assertEqual([roll.sent(number), roll.given(number)], [0, 4])

    def test_bad_flat(self):
        roll = some_roll()
        self.each(roll, BadFlat, "let", 0, no_flats())
        self.each(roll, BadFlat, "tenant", 0, no_flats())
        self.each(Roll(), BadFlat, "tenant", 0, no_flats())

    def test_good_flats(self):
        for flat in ("a", "z", "az", "za", "abcdefgh", "stuvwxyz", "zzzzzzzz"):
            roll = Roll()
            self.assertIsNone(roll.tenant(flat, 5))
            roll.let(flat, 5, 1, True)
            self.assertEqual(roll.tenant(flat, 5), 0)

    def test_bad_day(self):
        roll = some_roll()
        for name, row in [*LETTERS.items(), *QUESTIONS.items()]:
            if row[3] is not None:
                self.each(roll, BadDay, name, row[3], no_days())

    def test_days_at_their_bounds(self):
        for day in (0, 99999):
            roll = Roll()
            roll.let("a", day, 1, True)
            for name, told in [("step", (0, day, 5)), ("gauge", (day, 5)), ("rate", (day, 5)), ("paid", (0, day, 5)),
                               ("kept", (0, day, 5)), ("end", (0, day)), ("close", (0, day)), ("bill", (day,)),
                               ("tenant", ("a", day)), ("owed", (0, day)), ("pledge", (0, day))]:
                getattr(roll, name)(*told)

    def test_end_ahead_of_the_first_day(self):
        roll = some_roll()
        for day in (0, 8, 9):
            self.refused(roll, BadDay, "end", 0, day)
        roll.end(0, 10)
        self.refused(roll, BadDay, "end", 2, 99)
        # It is a bad day also where a lease of that flat stands ahead.
        self.refused(roll, BadDay, "end", 2, 5)
        self.assertEqual(roll.lease(0), ("a", 10, 10, True))

    def test_bad_amount(self):
        roll = some_roll()
        for name, row in LETTERS.items():
            if row[4] is not None:
                at, low, high = row[4]
                self.each(roll, BadAmount, name, at, no_amounts(low, high))

    def test_bounds_of_amounts_by_their_numbers(self):
        roll = some_roll()
        told = [
            ("let", "z", 0, -1, True), ("let", "z", 0, 1000000001, True), ("step", 0, 0, -1),
            ("step", 0, 0, 1000000001), ("gauge", 0, 0), ("gauge", 0, 1000001), ("rate", 0, -1), ("rate", 0, 10001),
            ("paid", 0, 0, 0), ("paid", 0, 0, 1000000001), ("kept", 0, 0, 0), ("kept", 0, 0, 1000000001),
            ("paid", 0, 0, -5), ("kept", 0, 0, -5),
        ]
        for letter in told:
            self.refused(roll, BadAmount, *letter)
        for letter in [
            ("let", "z", 0, 0, True), ("let", "y", 0, 1000000000, True), ("step", 0, 0, 0), ("step", 0, 0, 1000000000),
            ("gauge", 0, 1), ("gauge", 0, 1000000), ("rate", 0, 0), ("rate", 0, 10000), ("paid", 0, 0, 1),
            ("paid", 0, 0, 1000000000), ("kept", 0, 0, 1), ("kept", 0, 0, 1000000000),
        ]:
            self.assertIsInstance(plain.tell(roll, letter), list)

    def test_several_refusals_at_once(self):
        # What is looked at later is wrong too, all of it or each alone.
        wrong = {"lease": [-1, 3, True, None, "0", Contrary()], "day": [-1, 100000, True, None, Contrary()],
                 "flat": ["", "A", None, Contrary()], "amount": [-1, MOST + 1, True, None, Contrary()]}
        order = [(1, "lease", NoLease), (2, "flat", BadFlat), (3, "day", BadDay), (4, "amount", BadAmount)]
        roll = some_roll()
        for name, row in [*LETTERS.items(), *QUESTIONS.items()]:
            places = []
            for at, kind, error in order:
                place = row[at] if at < len(row) else None
                if place is not None:
                    places.append((place[0] if kind == "amount" else place, kind, error))
            for ahead, (place, kind, error) in enumerate(places):
                for thing in wrong[kind]:
                    for later, later_kind, _ in places[ahead + 1:]:
                        for other in wrong[later_kind]:
                            told = list(row[0])
                            told[place] = thing
                            told[later] = other
                            self.refused(roll, error, name, *told)
                told = list(row[0])
                for later, later_kind, _ in places[ahead:]:
                    told[later] = wrong[later_kind][-1]
                self.refused(roll, error, name, *told)

    def test_refusals_ahead_of_taken(self):
        roll = some_roll()
        self.refused(roll, Taken, "let", "a", 90, 1, True)
        self.refused(roll, BadAmount, "let", "a", 90, -1, True)
        self.refused(roll, BadDay, "let", "a", -1, -1, True)
        self.refused(roll, BadFlat, "let", "a1", -1, -1, True)
        self.refused(roll, Taken, "end", 0, 100)
        self.refused(roll, BadDay, "end", 0, 100000)
        self.refused(roll, NoLease, "end", 3, 100)

    def test_refusals_ahead_of_done(self):
        roll = some_roll()
        self.refused(roll, Done, "close", 1, 65)
        self.refused(roll, BadDay, "close", 1, 100000)
        self.refused(roll, NoLease, "close", True, 65)
        self.refused(roll, Done, "bill", 89)
        self.refused(roll, BadDay, "bill", -1)

    def test_let_over_another_lease(self):
        roll = Roll()
        roll.let("a", 10, 100, True)
        # It has no last day: so the flat is taken for good, ahead of its first day too.
        for day in (0, 9, 10, 11, 99999):
            self.refused(roll, Taken, "let", "a", day, 100, True)
        roll.end(0, 20)
        for day in (0, 9, 10, 15, 19, 20):
            self.refused(roll, Taken, "let", "a", day, 100, False)
        self.assertEqual(roll.let("aa", 15, 100, True), [])
        self.assertEqual(roll.let("a", 21, 100, True), [])
        self.assertEqual(roll.tenant("a", 21), 2)
        for day in (0, 20, 21, 22, 99999):
            self.refused(roll, Taken, "let", "a", day, 100, True)
        roll.end(2, 21)
        self.refused(roll, Taken, "let", "a", 21, 100, True)
        # Each of the flat's leases is looked at, not only its latest one.
        self.refused(roll, Taken, "let", "a", 5, 100, True)
        self.refused(roll, Taken, "let", "a", 20, 100, True)
        roll.let("a", 22, 100, True)
        self.assertEqual([roll.tenant("a", day) for day in (20, 21, 22)], [0, 2, 3])

    def test_a_flat_is_free_again_when_the_last_day_is_told_otherwise(self):
        roll = Roll()
        roll.let("a", 10, 100, True)
        roll.end(0, 20)
        self.refused(roll, Taken, "let", "a", 15, 100, True)
        roll.end(0, 14)
        roll.let("a", 15, 100, True)
        self.refused(roll, Taken, "end", 0, 20)

    def test_end_into_a_later_lease(self):
        roll = Roll()
        roll.let("a", 10, 3100, True)
        roll.end(0, 20)
        roll.let("b", 22, 3100, True)
        roll.let("a", 30, 3100, True)
        roll.bill(90)
        for day in (30, 31, 500, 99999):
            self.refused(roll, Taken, "end", 0, day)
        self.assertEqual(roll.lease(0), ("a", 10, 20, True))
        roll.end(0, 29)
        self.assertEqual(roll.lease(0), ("a", 10, 29, True))
        self.assertEqual([roll.tenant("a", day) for day in (29, 30)], [0, 2])
        # A lease of that flat with an earlier first day is in nobody's way, one of another flat neither.
        self.assertEqual(roll.end(2, 30), [("rent", 2, -6200)])
        roll.end(2, 99999)
        roll.end(1, 99999)
        # Nor is its own first day.
        roll.end(0, 10)
        self.refused(roll, Taken, "end", 0, 30)

    def test_end_into_one_that_has_ended_too(self):
        roll = Roll()
        for at, first in enumerate((10, 20, 30)):
            roll.let("a", first, 1, True)
            roll.end(at, first + 5)
        for day in (20, 25, 26, 29, 30, 99999):
            self.refused(roll, Taken, "end", 0, day)
        for day in (30, 35, 36, 99999):
            self.refused(roll, Taken, "end", 1, day)
        roll.end(0, 19)
        roll.end(1, 29)
        roll.end(2, 99999)

    def test_full(self):
        roll = Roll()
        for number in range(20):
            self.assertEqual(roll.many(), number)
            roll.let("a" + "bcdefghijklmnopqrstu"[number], 0, 1, True)
            if number % 2 == 0:
                roll.end(number, 5)
        self.assertEqual(roll.many(), 20)
        self.refused(roll, Full, "let", "z", 0, 1, True)
        self.refused(roll, Full, "let", "ab", 6, 1, True)
        self.refused(roll, Taken, "let", "ab", 5, 1, True)
        self.refused(roll, Taken, "let", "ac", 5, 1, True)
        self.refused(roll, BadAmount, "let", "z", 0, -1, True)
        self.refused(roll, BadDay, "let", "z", None, -1, True)
        self.refused(roll, BadFlat, "let", "Z", None, -1, True)
        for number in range(20):
            roll.end(number, 5)
        self.refused(roll, Full, "let", "z", 50, 1, True)
        self.refused(roll, NoLease, "lease", 20)
        # All else is still done.
        self.assertEqual(roll.bill(30), [])
        self.assertEqual(roll.step(19, 0, 3100), [("rent", 19, 600)])

    def test_close_a_second_time(self):
        roll = some_roll()
        for day in (0, 64, 65, 66, 99999):
            self.refused(roll, Done, "close", 1, day)
        roll.close(0, 0)
        self.refused(roll, Done, "close", 0, 0)
        roll.close(2, 99999)
        self.refused(roll, Done, "close", 2, 5)

    def test_bill_through_an_earlier_day(self):
        roll = some_roll()
        for day in (0, 1, 88, 89):
            self.refused(roll, Done, "bill", day)
        self.assertEqual(roll.bill(90), [])
        roll.bill(91)
        self.refused(roll, Done, "bill", 90)
        roll.bill(99999)
        self.refused(roll, Done, "bill", 99998)

    def test_things_that_are_refused_stay_as_they_were(self):
        roll = some_roll()
        row, table = [1, 2], {1: 2}
        for name, told in [("let", (row, table, row, True)), ("let", ("a", row, table, True)), ("end", (row, table)),
                           ("step", (0, 50, row)), ("gauge", (table, row)), ("rate", (50, table)),
                           ("paid", (0, row, row)), ("kept", (0, 5, row)), ("close", (0, row)), ("bill", (row,)),
                           ("lease", (row,)), ("tenant", (row, row)), ("owed", (0, row)), ("pledge", (table, 0)),
                           ("sent", (row,)), ("given", (table,))]:
            with self.assertRaises(RentError):
                getattr(roll, name)(*told)
        self.assertEqual((row, table), ([1, 2], {1: 2}))

    def test_numbers_that_cannot_be_shown(self):
        roll = some_roll()
        for _, number in far_numbers():
            self.refused(roll, NoLease, "lease", number)
            self.refused(roll, BadDay, "bill", number)
            self.refused(roll, BadAmount, "gauge", 0, number)

    def test_truths_are_no_numbers(self):
        roll = some_roll()
        for truth in (True, False):
            self.refused(roll, NoLease, "sent", truth)
            self.refused(roll, BadDay, "bill", truth)
            self.refused(roll, BadAmount, "rate", 5, truth)
        self.assertIn(("True", True), no_numbers())


if __name__ == "__main__":
    unittest.main()
