"""Letters that are told to a new roll (12), and letters told in another order."""

import itertools
import random
import unittest

import plain
from rentroll.errors import BadAmount, BadDay, BadFlat, Done, Full, NoLease, RentError, Taken
from rentroll.reading import roll_of
from rentroll.rolls import Roll
from test_rolls import any_letter

LETTERS = [
    ("let", "a", 10, 3100, True), ("end", 0, 80), ("let", "b", 0, 5000, False), ("let", "a", 100, 777, True),
    ("gauge", 20, 107), ("rate", 5, 250), ("paid", 0, 10, 50000), ("paid", 1, 0, 90000), ("bill", 40),
    ("kept", 1, 60, 500), ("close", 1, 65), ("step", 0, 40, 3333), ("bill", 90), ("gauge", 20, 109), ("bill", 90),
    ("end", 0, 85), ("rate", 5, 300),
]


class ReadingTest(unittest.TestCase):
    def test_no_letters(self):
        roll = roll_of([])
        self.assertIs(type(roll), Roll)
        self.assertEqual(plain.all_of(roll), plain.all_of(Roll()))

    def test_each_letter(self):
        for many in range(len(LETTERS) + 1):
            roll = Roll()
            for letter in LETTERS[:many]:
                getattr(roll, letter[0])(*letter[1:])
            self.assertEqual(plain.all_of(roll_of(LETTERS[:many])), plain.all_of(roll))
            self.assertEqual(roll.letters(), LETTERS[:many])
            self.assertEqual(plain.all_of(roll_of(roll.letters())), plain.all_of(roll))

    def test_the_list_handed_in(self):
        letters = list(LETTERS)
        roll = roll_of(letters)
        self.assertEqual(letters, LETTERS)
        before = plain.all_of(roll)
        letters[0] = ("let", "b", 0, 1, False)
        letters.append(("bill", 500))
        self.assertEqual(plain.all_of(roll), before)
        roll.bill(200)
        self.assertEqual(len(letters), len(LETTERS) + 1)

    def test_a_roll_that_was_read_goes_on_by_itself(self):
        roll = roll_of(LETTERS)
        other = roll_of(roll.letters())
        before = plain.all_of(roll)
        other.gauge(0, 50)
        other.bill(300)
        self.assertEqual(plain.all_of(roll), before)
        roll.gauge(0, 50)
        roll.bill(300)
        self.assertEqual(plain.all_of(roll), plain.all_of(other))

    def test_what_is_refused_goes_out(self):
        full = [("let", "b" + "abcdefghijklmnopqrst"[at], 0, 1, True) for at in range(20)]
        told = [
            (LETTERS + [("step", 3, 0, 5)], NoLease), ([("end", 0, 5)], NoLease), ([("paid", True, 5, 5)], NoLease),
            ([("let", "A", 0, 1, True)], BadFlat), ([("let", "", 0, 1, True), ("bill", 5)], BadFlat),
            ([("bill", -1)], BadDay), ([("bill", 5), ("rate", 100000, 1)], BadDay),
            (LETTERS + [("end", 2, 99)], BadDay), ([("gauge", 0, 0)], BadAmount), ([("rate", 0, 10001)], BadAmount),
            (LETTERS + [("kept", 0, 0, 0)], BadAmount), (LETTERS + [("let", "a", 200, 1, True)], Taken),
            (LETTERS + [("end", 0, 100)], Taken), (full + [("let", "a", 0, 1, True)], Full),
            (LETTERS + [("close", 1, 65)], Done), ([("bill", 5), ("bill", 4)], Done),
        ]
        for letters, error in told:
            before = list(letters)
            with self.subTest(last=letters[-1]):
                with self.assertRaises(RentError) as caught:
                    roll_of(letters)
                self.assertIs(type(caught.exception), error)
                self.assertEqual(letters, before)

    def test_refused_letters_are_not_kept(self):
        roll = roll_of(LETTERS)
        for letter in [("bill", 5), ("close", 1, 70), ("let", "a", 0, 1, True), ("step", 9, 0, 0), ("gauge", 0, 0)]:
            self.assertTrue(issubclass(plain.tell(roll, letter), RentError))
        self.assertEqual(roll.letters(), LETTERS)
        self.assertEqual(plain.all_of(roll_of(roll.letters())), plain.all_of(roll))

    def test_letters_by_chance(self):
        for seed in range(60):
            chance = random.Random(seed)
            roll = Roll()
            for _ in range(60):
                plain.tell(roll, any_letter(chance, roll, 400))
            self.assertEqual(plain.all_of(roll_of(roll.letters())), plain.all_of(roll))


class AnyOrderTest(unittest.TestCase):
    # No two letters are about one first day of the same row.
    LETS = [("let", "a", 10, 3100, True), ("let", "b", 0, 5000, False)]
    OTHERS = [
        ("end", 0, 80), ("step", 0, 40, 3333), ("step", 0, 30, 4444), ("step", 1, 30, 10), ("gauge", 20, 107),
        ("gauge", 60, 99), ("rate", 5, 250), ("rate", 50, 1000), ("paid", 0, 10, 50000), ("paid", 0, 10, 1),
        ("kept", 0, 60, 777), ("paid", 1, 0, 90000), ("kept", 1, 60, 500), ("close", 1, 65),
    ]

    def at_last(self, letters):
        known = plain.all_of(roll_of(letters))
        del known["letters"]
        return known

    def test_letters_in_another_order_with_bills_between(self):
        told = self.at_last(self.LETS + self.OTHERS + [("bill", 95)])
        self.assertEqual(told["sent"], [roll_of(self.LETS + self.OTHERS).owed(lease, 95) for lease in range(2)])
        self.assertNotEqual(told["given"][1], 0)
        chance = random.Random(12)
        for _ in range(200):
            others = list(self.OTHERS)
            chance.shuffle(others)
            letters = self.LETS + others
            bills = sorted(chance.sample(range(95), chance.randrange(6))) + [95]
            # Bills keep their own order, and stand anywhere among the others.
            places = sorted(chance.randrange(len(letters) + 1) for _ in bills)
            for place, day in reversed(list(zip(places, bills))):
                letters.insert(place, ("bill", day))
            self.assertEqual(self.at_last(letters), told, letters)

    def test_all_orders_of_a_few_letters(self):
        few = [("end", 0, 80), ("step", 0, 40, 3333), ("gauge", 20, 107), ("rate", 5, 250), ("paid", 0, 10, 50000),
               ("close", 0, 60)]
        told = self.at_last(self.LETS + few + [("bill", 95)])
        for order in itertools.permutations(few):
            letters = self.LETS + list(order[:3]) + [("bill", 50)] + list(order[3:]) + [("bill", 95)]
            self.assertEqual(self.at_last(letters), told)

    def test_a_late_letting(self):
        told = self.at_last(self.LETS + self.OTHERS + [("bill", 95)])
        for place in range(len(self.OTHERS) + 1):
            ahead = [letter for letter in self.OTHERS[:place] if letter[0] in ("gauge", "rate")]
            behind = [letter for letter in self.OTHERS if letter not in ahead]
            self.assertEqual(self.at_last(ahead + [("bill", 95)] + self.LETS + behind), told)

    def test_of_one_first_day_the_later_letter_holds(self):
        ahead = self.LETS + [("bill", 95)]
        for one, other in [(("gauge", 20, 107), ("gauge", 20, 50)), (("rate", 5, 100), ("rate", 5, 9999)),
                           (("step", 0, 20, 1), ("step", 0, 20, 9999)), (("end", 0, 20), ("end", 0, 90))]:
            money = [("paid", 0, 0, 10 ** 6), ("close", 0, 90)]
            told = self.at_last(ahead + money + [other])
            self.assertEqual(self.at_last(ahead + money + [one, other]), told)
            self.assertNotEqual(self.at_last(ahead + money + [other, one]), told)


if __name__ == "__main__":
    unittest.main()
