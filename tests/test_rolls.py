import random
import unittest

import plain
from rentroll.rents import part
from rentroll.rolls import Roll

MOST = 10 ** 9


def told(*letters):
    roll = Roll()
    for name, *rest in letters:
        getattr(roll, name)(*rest)
    return roll


class RollTest(unittest.TestCase):
    def test_a_new_roll(self):
        roll = Roll()
        self.assertEqual(roll.many(), 0)
        self.assertEqual(roll.billed(), -1)
        self.assertEqual(roll.letters(), [])
        self.assertIsNone(roll.tenant("a", 0))

    def test_leases_are_numbered_as_they_came(self):
        roll = told(("let", "c", 50, 1, True), ("let", "a", 10, 2, False), ("let", "b", 30, 3, True))
        self.assertEqual(roll.many(), 3)
        self.assertEqual(roll.lease(0), ("c", 50, None, True))
        self.assertEqual(roll.lease(1), ("a", 10, None, False))
        self.assertEqual(roll.lease(2), ("b", 30, None, True))

    def test_a_lease_is_a_tuple_that_tells_its_last_day(self):
        roll = told(("let", "abcdefgh", 0, 1000, True))
        self.assertIs(type(roll.lease(0)), tuple)
        self.assertIs(roll.lease(0)[3], True)
        roll.end(0, 99)
        self.assertEqual(roll.lease(0), ("abcdefgh", 0, 99, True))
        roll.end(0, 0)
        self.assertEqual(roll.lease(0), ("abcdefgh", 0, 0, True))
        roll.end(0, 99999)
        self.assertEqual(roll.lease(0), ("abcdefgh", 0, 99999, True))

    def test_billed(self):
        roll = Roll()
        for day in (0, 0, 5, 30, 30, 99998, 99999, 99999):
            self.assertEqual(roll.bill(day), [])
            self.assertEqual(roll.billed(), day)

    def test_tenant(self):
        roll = told(("let", "a", 10, 1, True), ("end", 0, 20), ("let", "b", 5, 1, True), ("let", "a", 25, 1, False))
        for day, number in [(0, None), (9, None), (10, 0), (15, 0), (20, 0), (21, None), (24, None), (25, 2),
                            (26, 2), (99999, 2)]:
            self.assertEqual(roll.tenant("a", day), number, day)
        for day, number in [(4, None), (5, 1), (99999, 1)]:
            self.assertEqual(roll.tenant("b", day), number, day)
        for flat in ("c", "aa", "ab", "abcdefgh"):
            self.assertIsNone(roll.tenant(flat, 15))

    def test_tenant_of_a_flat_let_again_on_the_day_behind(self):
        roll = told(("let", "a", 10, 1, True), ("end", 0, 20), ("let", "a", 21, 1, True))
        self.assertEqual([roll.tenant("a", day) for day in (9, 10, 20, 21, 22)], [None, 0, 0, 1, 1])
        roll.end(0, 15)
        self.assertEqual([roll.tenant("a", day) for day in (15, 16, 20, 21)], [0, None, None, 1])
        roll.end(1, 21)
        self.assertEqual([roll.tenant("a", day) for day in (20, 21, 22)], [None, 1, None])

    def test_tenant_for_a_single_day(self):
        roll = told(("let", "a", 7, 1, True), ("end", 0, 7))
        self.assertEqual([roll.tenant("a", day) for day in (6, 7, 8)], [None, 0, None])

    def test_owed_from_the_first_day_through_the_last(self):
        roll = told(("let", "a", 10, 3100, False))
        for day, cents in [(0, 0), (9, 0), (10, 100), (11, 200), (30, 2100), (59, 5200)]:
            self.assertEqual(roll.owed(0, day), cents, day)
        roll.end(0, 20)
        for day, cents in [(9, 0), (10, 100), (19, 1000), (20, 1100), (21, 1100), (99999, 1100)]:
            self.assertEqual(roll.owed(0, day), cents, day)
        # What is owed does not ask for the billed day.
        self.assertEqual((roll.billed(), roll.sent(0)), (-1, 0))

    def test_owed_on_the_last_day_of_the_calendar(self):
        roll = told(("let", "a", 99999, MOST, False))
        self.assertEqual(roll.owed(0, 99998), 0)
        self.assertEqual(roll.owed(0, 99999), part(MOST, 99999))
        self.assertEqual(roll.bill(99999), [("rent", 0, part(MOST, 99999))])

    def test_steps(self):
        roll = told(("let", "a", 0, 3100, False), ("step", 0, 10, 6200), ("step", 0, 20, 0))
        for day, cents in [(9, 1000), (10, 1200), (19, 3000), (20, 3000), (99999, 3000)]:
            self.assertEqual(roll.owed(0, day), cents, day)

    def test_a_step_ahead_of_the_first_day(self):
        # The rent of the letting itself holds from the lease's first day on.
        roll = told(("let", "a", 10, 3100, False), ("step", 0, 5, 31000))
        self.assertEqual(roll.owed(0, 9), 0)
        self.assertEqual(roll.owed(0, 10), 100)

    def test_a_step_is_of_its_lease_alone(self):
        roll = told(("let", "a", 0, 3100, False), ("let", "b", 0, 3100, False), ("step", 1, 0, 6200))
        self.assertEqual([roll.owed(0, 9), roll.owed(1, 9)], [1000, 2000])

    def test_indexed_and_not(self):
        roll = told(("let", "a", 0, 3100, True), ("let", "b", 0, 3100, False), ("gauge", 10, 200))
        self.assertEqual([roll.owed(0, 9), roll.owed(1, 9)], [1000, 1000])
        self.assertEqual([roll.owed(0, 19), roll.owed(1, 19)], [3000, 2000])
        # The money of both first days changes alike: so nothing else is owed.
        roll.gauge(0, 200)
        self.assertEqual([roll.owed(0, 19), roll.owed(1, 19)], [2000, 2000])
        roll.gauge(0, 50)
        self.assertEqual([roll.owed(0, 19), roll.owed(1, 19)], [5000, 2000])

    def test_gauges_begin_at_100(self):
        roll = told(("let", "a", 0, 3100, True), ("gauge", 10, 107), ("step", 0, 20, 3100))
        self.assertEqual(roll.owed(0, 9), 1000)
        self.assertEqual(roll.owed(0, 19), 1000 + 1070)
        # A step is told in the money of its own first day.
        self.assertEqual(roll.owed(0, 29), 1000 + 1070 + 1000)

    def test_pledge(self):
        roll = told(("let", "a", 50, 0, True), ("paid", 0, 10, 73000), ("kept", 0, 20, 36500))
        self.assertEqual([roll.pledge(0, day) for day in (0, 9, 10, 19, 20, 99999)],
                         [0, 0, 73000, 73000, 36500, 36500])
        roll.rate(0, 100)
        # 2 cents a day grow from day 10 on, then one.
        self.assertEqual([roll.pledge(0, day) for day in (9, 10, 19, 20, 29)],
                         [0, 73002, 73020, 36521, 36530])
        roll.rate(20, 0)
        self.assertEqual([roll.pledge(0, day) for day in (10, 19, 20, 29)], [73002, 73020, 36520, 36520])
        roll.rate(0, 10 ** 4)
        self.assertEqual([roll.pledge(0, day) for day in (10, 19, 20)], [73200, 75000, 38500])

    def test_a_pledge_below_0(self):
        roll = told(("let", "a", 0, 0, True), ("kept", 0, 10, 1), ("rate", 0, 1))
        self.assertEqual([roll.pledge(0, day) for day in (9, 10, 99999)], [0, -2, -2])

    def test_a_pledge_goes_on_behind_its_closing_and_the_last_day(self):
        roll = told(("let", "a", 0, 0, True), ("rate", 0, 100), ("paid", 0, 0, 36500), ("end", 0, 5), ("close", 0, 9))
        self.assertEqual([roll.pledge(0, day) for day in (0, 9, 10, 364)], [36501, 36510, 36511, 36865])
        self.assertEqual(roll.given(0), 36510)

    def test_moves_are_of_their_lease_alone(self):
        roll = told(("let", "a", 0, 0, True), ("let", "b", 0, 0, True), ("paid", 1, 0, 7), ("kept", 0, 0, 3))
        self.assertEqual([roll.pledge(0, 0), roll.pledge(1, 0)], [-3, 7])

    def test_bounds_of_amounts(self):
        roll = told(("let", "a", 0, MOST, True), ("let", "b", 0, 0, True), ("step", 0, 31, 0), ("step", 1, 31, MOST),
                    ("gauge", 0, 1), ("gauge", 31, 10 ** 6), ("rate", 0, 0), ("rate", 31, 10 ** 4),
                    ("paid", 0, 0, 1), ("paid", 0, 0, MOST), ("kept", 1, 0, 1), ("kept", 1, 0, MOST))
        self.assertEqual([roll.owed(0, 59), roll.owed(1, 59)], [MOST, MOST])
        self.assertEqual([roll.pledge(0, 30), roll.pledge(1, 30)], [MOST + 1, -MOST - 1])
        self.assertEqual(roll.pledge(0, 31), MOST + 1 + (MOST + 1) * 10 ** 4 // 3650000)
        self.assertEqual(len(roll.letters()), 12)

    def test_one_roll_knows_nothing_of_another(self):
        roll, other = Roll(), Roll()
        roll.let("a", 0, 3100, True)
        roll.gauge(0, 50)
        roll.gauge(10, 100)
        roll.rate(0, 9999)
        roll.paid(0, 0, 100000)
        roll.bill(500)
        self.assertEqual((other.many(), other.billed(), other.letters()), (0, -1, []))
        other.let("a", 0, 3100, True)
        other.paid(0, 0, 100000)
        self.assertEqual([other.owed(0, 19), other.pledge(0, 19), other.sent(0)], [2000, 100000, 0])
        self.assertIsNone(Roll().tenant("a", 5))

    def test_lists_that_are_given_are_the_askers_own(self):
        roll = told(("let", "a", 0, 3100, True), ("paid", 0, 0, 5))
        answer = roll.bill(9)
        letters = roll.letters()
        before = plain.all_of(roll)
        answer.append(("rent", 0, 9))
        letters[0] = ("bill", 99)
        letters.append(("bill", 99))
        self.assertEqual(plain.all_of(roll), before)
        self.assertIsNot(roll.letters(), roll.letters())
        self.assertEqual(roll.bill(9), [])
        self.assertEqual(roll.letters(), [("let", "a", 0, 3100, True), ("paid", 0, 0, 5), ("bill", 9), ("bill", 9)])


class LettersTest(unittest.TestCase):
    def test_each_letter_as_it_was_told(self):
        letters = [
            ("let", "a", 3, 100, True), ("end", 0, 90), ("step", 0, 5, 200), ("gauge", 7, 105), ("rate", 8, 250),
            ("paid", 0, 3, 1000), ("kept", 0, 4, 10), ("close", 0, 91), ("bill", 50), ("bill", 50),
            ("let", "b", 0, 0, False), ("step", 0, 5, 200), ("end", 0, 90),
        ]
        roll = Roll()
        for at, letter in enumerate(letters):
            getattr(roll, letter[0])(*letter[1:])
            self.assertEqual(roll.letters(), letters[:at + 1])
        self.assertEqual([type(letter) for letter in roll.letters()], [tuple] * len(letters))
        self.assertIs(type(roll.letters()), list)
        self.assertIs(roll.letters()[0][4], True)
        self.assertIs(roll.letters()[10][4], False)

    def test_names_of_what_is_told(self):
        roll = Roll()
        roll.let(flat="a", first=3, rent=100, indexed=True)
        roll.end(lease=0, last=90)
        roll.step(lease=0, first=5, rent=200)
        roll.gauge(first=7, number=105)
        roll.rate(first=8, hundredths=250)
        roll.paid(lease=0, day=3, cents=1000)
        roll.kept(lease=0, day=4, cents=10)
        roll.close(lease=0, day=91)
        roll.bill(day=50)
        self.assertEqual(roll.lease(number=0), ("a", 3, 90, True))
        self.assertEqual(roll.tenant(flat="a", day=3), 0)
        self.assertEqual(roll.owed(lease=0, day=2), 0)
        self.assertEqual(roll.pledge(lease=0, day=2), 0)
        self.assertEqual(roll.sent(lease=0), roll.owed(0, 50))
        self.assertEqual(roll.given(lease=0), roll.pledge(0, 91))


def any_letter(chance, roll, days):
    """A letter that mostly can be done."""
    leases = roll.many()
    lease = chance.randrange(-1, leases + 1) if chance.random() < 0.1 else chance.randrange(max(leases, 1))
    day = chance.randrange(days)
    rent = chance.choice([0, 1, 29, 3100, chance.randrange(5000), MOST, -1])
    cents = chance.choice([1, 365, chance.randrange(100000), MOST, 0])
    return chance.choice([
        ("let", chance.choice("ab"), day, rent, chance.random() < 0.7),
        ("let", chance.choice("abc"), day // 3, rent, chance.random() < 0.7),
        ("end", lease, day), ("end", lease, day), ("end", lease, day // 2), ("step", lease, day, rent),
        ("gauge", day, chance.choice([1, 100, chance.randrange(300), 10 ** 6])),
        ("rate", day, chance.choice([0, 250, chance.randrange(9999), 10 ** 4, 10 ** 4 + 1])),
        ("paid", lease, day, cents), ("kept", lease, day, cents), ("close", lease, day),
        ("bill", day), ("bill", max(roll.billed() + 3, 0)),
    ])


class AgainstThePlainWayTest(unittest.TestCase):
    def test_letters_by_chance(self):
        for seed in range(150):
            chance = random.Random(seed)
            roll, other = Roll(), plain.PlainRoll()
            days = chance.choice([8, 70, 130])
            for _ in range(50):
                letter = any_letter(chance, roll, days)
                self.assertEqual(plain.tell(roll, letter), other.tell(letter), (seed, other.told, letter))
            self.same(roll, other, days)

    def same(self, roll, other, days):
        self.assertEqual((roll.many(), roll.billed(), roll.letters()), (other.many(), other.billed(), other.told))
        for flat in "abc":
            for day in range(days):
                self.assertEqual(roll.tenant(flat, day), other.tenant(flat, day))
        for lease in range(roll.many()):
            self.assertEqual(roll.lease(lease), other.lease(lease))
            self.assertEqual((roll.sent(lease), roll.given(lease)), (other.sent(lease), other.given(lease)))
            for day in (0, days // 3, days - 1, days + 40):
                self.assertEqual(roll.owed(lease, day), other.owed(lease, day))
                self.assertEqual(roll.pledge(lease, day), other.pledge(lease, day))


if __name__ == "__main__":
    unittest.main()
