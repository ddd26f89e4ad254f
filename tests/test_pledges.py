import itertools
import random
import unittest

import plain
from rentroll.pledges import balance, grown

MOST = 10 ** 9


class BalanceTest(unittest.TestCase):
    def check(self, moves, day, cents):
        before = list(moves)
        self.assertEqual(balance(moves, day), cents)
        self.assertEqual(moves, before)

    def test_no_moves(self):
        self.check([], 0, 0)
        self.check([], 99999, 0)

    def test_a_move_counts_from_its_day_on(self):
        for day, cents in [(0, 0), (9, 0), (10, 500), (11, 500), (99999, 500)]:
            self.check([(10, 500)], day, cents)
        self.check([(0, 5)], 0, 5)
        self.check([(99999, 5)], 99998, 0)
        self.check([(99999, 5)], 99999, 5)

    def test_several_moves_in_any_order_and_on_one_day(self):
        for row in itertools.permutations([(10, 500), (10, 70), (20, -600), (30, 1)]):
            for day, cents in [(9, 0), (10, 570), (19, 570), (20, -30), (29, -30), (30, -29)]:
                self.check(list(row), day, cents)
        self.check([(4, 7), (4, 7), (4, 7)], 4, 21)
        self.check([(4, 7), (4, -7)], 4, 0)

    def test_great_cents(self):
        self.check([(0, MOST)] * 40, 0, 40 * MOST)
        self.check([(0, -MOST)] * 40, 99999, -40 * MOST)

    def test_moves_that_have_changed(self):
        moves = [(0, 5)]
        self.check(moves, 9, 5)
        moves.append((9, 6))
        self.check(moves, 9, 11)
        moves[0] = (10, 5)
        self.check(moves, 9, 6)


class GrownTest(unittest.TestCase):
    def check(self, moves, rates, last, cents):
        before = (list(moves), list(rates))
        self.assertEqual(grown(moves, rates, last), cents, (moves, rates, last))
        self.assertEqual((moves, rates), before)

    def test_no_moves_and_rate_0(self):
        self.check([], [(0, 10 ** 4)], 99999, 0)
        self.check([(0, MOST)], [(0, 0)], 99999, 0)
        self.check([(0, -MOST)], [(0, 0)], 99999, 0)

    def test_a_year_at_a_rate(self):
        # 365 days from a move on, its own day with them.
        self.check([(0, 100000)], [(0, 250)], 364, 2500)
        self.check([(0, 100000)], [(0, 250)], 363, 2493)
        self.check([(700, 100000)], [(0, 250)], 1064, 2500)
        self.check([(0, 1)], [(0, 10 ** 4)], 363, 0)
        self.check([(0, 1)], [(0, 10 ** 4)], 364, 1)
        self.check([(0, 1)], [(0, 10 ** 4)], 728, 1)
        self.check([(0, 1)], [(0, 10 ** 4)], 729, 2)

    def test_the_day_of_a_move_counts(self):
        self.check([(10, 365)], [(0, 10 ** 4)], 9, 0)
        self.check([(10, 365)], [(0, 10 ** 4)], 10, 1)
        self.check([(10, 365)], [(0, 10 ** 4)], 11, 2)

    def test_moves_behind_the_day(self):
        rates = [(0, 10 ** 4)]
        self.check([(10, 365), (20, 36500)], rates, 19, 10)
        self.check([(10, 365), (20, 36500)], rates, 20, 111)
        self.check([(99999, 365)], rates, 99998, 0)
        self.check([(99999, 365)], rates, 99999, 1)

    def test_several_moves_on_one_day_in_any_order(self):
        for row in itertools.permutations([(10, 365), (10, 730), (12, -1460), (12, 365)]):
            for day, cents in [(9, 0), (10, 3), (11, 6), (12, 6), (13, 6)]:
                self.check(list(row), [(0, 10 ** 4)], day, cents)

    def test_rounded_down_below_0_too(self):
        self.check([(0, -1)], [(0, 1)], 0, -1)
        self.check([(0, -1)], [(0, 10 ** 4)], 363, -1)
        self.check([(0, -1)], [(0, 10 ** 4)], 364, -1)
        self.check([(0, -1)], [(0, 10 ** 4)], 365, -2)
        self.check([(0, 1)], [(0, 1)], 0, 0)

    def test_rounded_once_at_the_end(self):
        # Each day, each move and each rate by itself would come to 0, or to -1 below 0.
        for day, cents in [(342, 0), (343, 1), (585, 1), (586, 2)]:
            self.check([(0, 1), (100, 1), (200, 1)], [(0, 5000), (50, 5001), (150, 4999)], day, cents)
        self.check([(day, -1) for day in range(40)], [(0, 1)], 39, -1)
        self.check([(0, 1), (1, -1), (2, 1), (3, -1)], [(0, 1)], 3, 0)
        self.check([(0, 1), (1, -2), (2, 1)], [(0, 1), (1, 2)], 9, -1)
        self.check([(0, 2), (1, -3), (2, 1)], [(0, 1)], 9, 0)

    def test_it_bears_no_interest_itself(self):
        # Twice the year gives twice the cents, and no more.
        self.check([(0, 1000)], [(0, 10 ** 4)], 364, 1000)
        self.check([(0, 1000)], [(0, 10 ** 4)], 729, 2000)
        self.check([(0, 1000)], [(0, 10 ** 4)], 3649, 10000)

    def test_rates_that_change(self):
        rates = [(0, 0), (10, 10 ** 4), (20, 0), (30, 5000)]
        for day, cents in [(9, 0), (10, 1), (19, 10), (20, 10), (29, 10), (30, 10), (31, 11), (99999, 49995)]:
            self.check([(0, 365)], rates, day, cents)
        for row in itertools.permutations(rates):
            self.check([(0, 365)], list(row), 39, 15)

    def test_a_rate_told_again_for_one_day(self):
        self.check([(0, 365)], [(0, 0), (10, 1), (10, 10 ** 4)], 19, 10)
        self.check([(0, 365)], [(0, 0), (10, 10 ** 4), (10, 0)], 19, 0)
        self.check([(0, 365)], [(0, 0), (10, 10 ** 4), (0, 10 ** 4)], 19, 20)

    def test_whole_calendar(self):
        self.check([(0, MOST)], [(0, 10 ** 4)], 99999, 273972602739)
        self.check([(0, -MOST)], [(0, 10 ** 4)], 99999, -273972602740)
        moves = [(0, 12345), (777, -99999), (40000, MOST), (99999, 1)]
        rates = [(0, 17), (5000, 10 ** 4), (60000, 0), (90000, 333)]
        self.check(moves, rates, 99999, plain.grown(moves, rates, 99999))

    def test_rows_that_have_changed(self):
        moves = [(0, 365)]
        rates = [(0, 10 ** 4)]
        self.check(moves, rates, 9, 10)
        moves.append((5, 365))
        self.check(moves, rates, 9, 15)
        rates.append((5, 0))
        self.check(moves, rates, 9, 5)
        moves[0] = (4, 365)
        self.check(moves, rates, 9, 1)
        del rates[1]
        self.check(moves, rates, 9, 11)

    def test_against_the_plain_way(self):
        chance = random.Random(6)
        for _ in range(300):
            moves = [(chance.randrange(90), chance.choice([1, -1, 7, -9, chance.randrange(-MOST, MOST)]))
                     for _ in range(chance.randrange(8))]
            rates = [(chance.randrange(90), chance.choice([0, 1, chance.randrange(999), 10 ** 4]))
                     for _ in range(chance.randrange(6))]
            rates.insert(chance.randrange(len(rates) + 1), (0, chance.randrange(10 ** 4)))
            for day in (0, chance.randrange(90), 95):
                self.check(moves, rates, day, plain.grown(moves, rates, day))
                self.assertEqual(balance(moves, day), plain.balance(moves, day))


if __name__ == "__main__":
    unittest.main()
