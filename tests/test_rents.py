import itertools
import random
import unittest

import plain
from rentroll.days import day_of, month_days
from rentroll.rents import owed, part, rent_on

STEADY = [(0, 100)]
MOST = 10 ** 9


class RentOnTest(unittest.TestCase):
    def check(self, steps, gauges, day, rent):
        before = (list(steps), list(gauges))
        self.assertEqual(rent_on(steps, gauges, day), rent)
        self.assertEqual((steps, gauges), before)

    def test_no_step(self):
        for day in (0, 1, 99999):
            self.check([], STEADY, day, 0)
            self.check([], [(0, 100), (1, 110)], day, 0)

    def test_a_day_ahead_of_all_steps(self):
        self.check([(10, 500)], STEADY, 9, 0)
        self.check([(10, 500), (20, 600)], STEADY, 0, 0)
        self.check([(99999, 500)], STEADY, 99998, 0)

    def test_a_first_day_itself_and_the_days_behind_it(self):
        for day in (10, 11, 500, 99999):
            self.check([(10, 500)], STEADY, day, 500)
        self.check([(0, 7)], STEADY, 0, 7)
        self.check([(99999, 7)], STEADY, 99999, 7)

    def test_steps_in_any_order(self):
        steps = [(10, 100), (20, 50), (30, 0), (40, 900)]
        for row in itertools.permutations(steps):
            for day, rent in [(9, 0), (10, 100), (19, 100), (20, 50), (30, 0), (39, 0), (40, 900), (41, 900)]:
                self.check(list(row), STEADY, day, rent)

    def test_of_steps_with_one_first_the_last_in_the_row(self):
        self.check([(10, 1), (10, 2), (10, 3)], STEADY, 10, 3)
        self.check([(10, 3), (0, 9), (10, 1)], STEADY, 12, 1)
        self.check([(10, 3), (10, 0)], STEADY, 12, 0)
        self.check([(20, 3), (10, 8)], STEADY, 25, 3)

    def test_the_gauge_on_the_day_by_that_on_the_first_day_of_the_step(self):
        gauges = [(0, 100), (10, 110), (20, 130)]
        for day, rent in [(4, 0), (5, 1000), (9, 1000), (10, 1100), (19, 1100), (20, 1300), (99999, 1300)]:
            self.check([(5, 1000)], gauges, day, rent)
        # A rent that is told from the gauge's own first day on is told in its money.
        for day, rent in [(10, 1100), (19, 1100), (20, 1300)]:
            self.check([(10, 1100)], gauges, day, rent)
        self.check([(20, 1300)], gauges, 20, 1300)

    def test_each_step_has_the_gauge_of_its_own_first_day(self):
        gauges = [(0, 100), (10, 200), (20, 300)]
        steps = [(5, 50), (15, 50), (25, 50)]
        for day, rent in [(5, 50), (10, 100), (15, 50), (20, 75), (25, 50)]:
            self.check(steps, gauges, day, rent)

    def test_gauges_with_one_first_and_in_any_order(self):
        self.check([(0, 600)], [(0, 100), (5, 150), (0, 300)], 4, 600)
        self.check([(0, 600)], [(0, 100), (5, 150), (0, 300)], 5, 300)
        self.check([(3, 600)], [(5, 150), (0, 100), (5, 250)], 6, 1500)

    def test_rounded_down(self):
        self.check([(0, 1)], [(0, 3), (1, 2), (2, 4), (3, 5), (4, 6)], 1, 0)
        for day, rent in [(0, 1), (1, 0), (2, 1), (3, 1), (4, 2)]:
            self.check([(0, 1)], [(0, 3), (1, 2), (2, 4), (3, 5), (4, 6)], day, rent)
        self.check([(0, 999)], [(0, 1000), (1, 1)], 1, 0)
        self.check([(0, 1000)], [(0, 1000), (1, 1)], 1, 1)
        self.check([(0, 200)], [(0, 103), (9, 207)], 9, 401)

    def test_rounded_once_from_the_rent_that_was_told(self):
        # By way of the gauge between it would come to 66, to 99 and so on.
        self.check([(0, 100)], [(0, 3), (1, 2), (2, 3)], 2, 100)
        self.check([(0, 10)], [(0, 7), (1, 1), (2, 6)], 2, 8)

    def test_rents_and_numbers_at_their_bounds(self):
        self.check([(0, MOST)], [(0, 1), (1, 10 ** 6)], 1, 10 ** 15)
        self.check([(0, MOST)], [(0, 10 ** 6), (1, 1)], 1, 1000)
        self.check([(0, MOST)], [(0, 999999), (1, 10 ** 6)], 1, 1000001000)
        self.check([(0, MOST)], [(0, 3), (1, 10 ** 6)], 1, 333333333333333)
        self.check([(0, MOST - 1)], [(0, 10 ** 6), (1, 999999)], 1, 999998999)
        self.check([(0, 0)], [(0, 1), (1, 10 ** 6)], 1, 0)

    def test_rows_that_have_changed(self):
        steps = [(0, 100)]
        gauges = [(0, 100)]
        self.check(steps, gauges, 50, 100)
        steps.append((40, 300))
        self.check(steps, gauges, 50, 300)
        gauges.append((45, 200))
        self.check(steps, gauges, 50, 600)
        gauges.append((30, 50))
        self.check(steps, gauges, 50, 1200)
        gauges[1] = (45, 25)
        self.check(steps, gauges, 50, 150)
        del steps[1]
        self.check(steps, gauges, 50, 25)
        del steps[:]
        self.check(steps, gauges, 50, 0)

    def test_against_the_plain_way(self):
        chance = random.Random(4)
        for _ in range(400):
            steps = [(chance.randrange(9), chance.randrange(1000)) for _ in range(chance.randrange(6))]
            gauges = [(chance.randrange(9), chance.randrange(1, 300)) for _ in range(chance.randrange(6))]
            gauges.insert(chance.randrange(len(gauges) + 1), (0, chance.randrange(1, 300)))
            for day in range(10):
                self.check(steps, gauges, day, plain.rent_on(steps, gauges, day))


class PartTest(unittest.TestCase):
    def month(self, rent, year, month):
        start = day_of(year, month, 1)
        return [part(rent, start + number) for number in range(month_days(year, month))]

    def test_first_and_last_days(self):
        told = [
            ((2001, 2), 28, 100, 3, 4), ((2000, 2), 29, 100, 3, 4), ((2000, 4), 30, 100, 3, 4),
            ((2000, 1), 31, 100, 3, 4), ((2001, 2), 28, MOST, 35714285, 35714286),
            ((2000, 2), 29, MOST, 34482758, 34482759), ((2000, 4), 30, MOST, 33333333, 33333334),
            ((2000, 1), 31, MOST, 32258064, 32258065), ((2000, 4), 30, 29, 0, 1),
        ]
        for (year, month), many, rent, first, last in told:
            with self.subTest(year=year, month=month, rent=rent):
                parts = self.month(rent, year, month)
                self.assertEqual(len(parts), many)
                self.assertEqual((parts[0], parts[-1]), (first, last))

    def test_small_rents(self):
        for year, month in [(2001, 2), (2000, 2), (2000, 4), (2000, 1)]:
            many = month_days(year, month)
            self.assertEqual(self.month(0, year, month), [0] * many)
            # A rent of 1 is owed for the last day alone.
            self.assertEqual(self.month(1, year, month), [0] * (many - 1) + [1])
        self.assertEqual(self.month(29, 2000, 2), [1] * 29)
        self.assertEqual(self.month(29, 2001, 2), [1] * 27 + [2])
        self.assertEqual(self.month(29, 2000, 4), [0] + [1] * 29)
        self.assertEqual(self.month(31, 2000, 4), [1] * 29 + [2])
        self.assertEqual(self.month(2, 2000, 4), [0] * 14 + [1] + [0] * 14 + [1])

    def test_all_parts_of_a_month_come_to_its_rent(self):
        for rent in (0, 1, 29, 31, 100, 77777, MOST - 1, MOST):
            for year, month in itertools.product((2000, 2001, 2100, 2272, 2273), range(1, 10)):
                parts = self.month(rent, year, month)
                self.assertEqual(sum(parts), rent)
                self.assertTrue(rent // len(parts) <= min(parts) <= max(parts) <= rent // len(parts) + 1)

    def test_last_month_of_the_calendar(self):
        start = day_of(2273, 10, 1)
        self.assertEqual(start + 14, 99999)
        # It has 31 days, also where the last of them are behind the last day.
        self.assertEqual([part(31, day) for day in range(start, 100000)], [1] * 15)
        self.assertEqual(part(MOST, start), 32258064)
        self.assertEqual(part(MOST, 99999), MOST * 15 // 31 - MOST * 14 // 31)
        self.assertEqual(sum(part(MOST, day) for day in range(start, 100000)), 483870967)

    def test_against_the_plain_way(self):
        for rent in (0, 1, 29, 30, 12345, MOST):
            for day in [*range(1600), *range(36480, 36600), *range(99000, 100000)]:
                self.assertEqual(part(rent, day), plain.part(rent, day))


class OwedTest(unittest.TestCase):
    def check(self, steps, gauges, first, last):
        before = (list(steps), list(gauges))
        told = sum(part(rent_on(steps, gauges, day), day) for day in range(first, last + 1))
        self.assertEqual(owed(steps, gauges, first, last), told, (steps, gauges, first, last))
        self.assertEqual((steps, gauges), before)

    def test_no_steps(self):
        self.assertEqual(owed([], STEADY, 0, 99999), 0)
        self.assertEqual(owed([(50, 9)], STEADY, 0, 49), 0)

    def test_a_day(self):
        for day in (0, 30, 31, 58, 59, 60, 365, 366, 99999):
            self.assertEqual(owed([(0, 12345)], STEADY, day, day), part(12345, day))
        self.assertEqual(owed([(9, 30000)], STEADY, 8, 8), 0)

    def test_the_second_day_ahead_of_the_first(self):
        for first, last in [(1, 0), (31, 30), (60, 0), (99999, 0), (99999, 99998)]:
            self.assertEqual(owed([(0, 1000), (30, 9)], [(0, 100), (30, 200)], first, last), 0)

    def test_whole_months(self):
        self.assertEqual(owed([(0, 777)], STEADY, 0, 30), 777)
        self.assertEqual(owed([(0, 777)], STEADY, 0, 365), 12 * 777)
        self.assertEqual(owed([(0, 777)], STEADY, 31, 59), 777)
        for year, month in itertools.product((2000, 2099, 2100, 2272), range(1, 13)):
            first = day_of(year, month, 1)
            last = day_of(year, month, month_days(year, month))
            for rent in (0, 1, 29, MOST):
                months = (year - 2000) * 12 + month
                self.assertEqual(owed([(0, rent)], STEADY, 0, last), months * rent)
                self.assertEqual(owed([(0, rent)], STEADY, first, last), rent)
                self.assertEqual(owed([(0, rent)], STEADY, first, day_of(2273, 9, 30)), rent * (3286 - months))

    def test_through_the_whole_calendar(self):
        self.assertEqual(owed([(0, 31)], STEADY, 0, 99999), 3285 * 31 + 15)
        self.assertEqual(owed([(0, MOST)], STEADY, 0, 99999), 3285 * MOST + 483870967)
        self.assertEqual(owed([(99999, MOST)], STEADY, 0, 99999), part(MOST, 99999))
        self.check([(0, 123456), (777, 50), (40000, MOST), (99990, 1)],
                   [(0, 100), (1000, 117), (50000, 3), (99999, 10 ** 6)], 0, 99999)

    def test_changes_within_a_month_and_at_its_ends(self):
        # January has the days 0 to 30, February 31 to 59, March 60 to 90.
        days = [0, 1, 15, 29, 30, 31, 32, 45, 58, 59, 60, 61, 90, 91]
        for step, gauge in itertools.product(days, days):
            steps = [(0, 1001), (step, 733)]
            gauges = [(0, 100), (gauge, 129)]
            for first, last in [(0, 100), (15, 59), (31, 59), (30, 60), (step, gauge), (gauge, step), (45, 45)]:
                self.check(steps, gauges, first, last)

    def test_spans_that_follow_each_other(self):
        steps = [(3, 1001), (45, 88), (70, 5005)]
        gauges = [(0, 97), (31, 113), (44, 59), (75, 222)]
        whole = owed(steps, gauges, 0, 120)
        for day in range(120):
            self.assertEqual(owed(steps, gauges, 0, day) + owed(steps, gauges, day + 1, 120), whole)

    def test_several_terms_about_one_first(self):
        self.assertEqual(owed([(0, 10), (0, 31)], STEADY, 0, 30), 31)
        self.assertEqual(owed([(0, 31), (0, 10)], STEADY, 0, 30), 10)
        self.assertEqual(owed([(0, 31)], [(0, 100), (0, 700), (10, 7), (10, 1400)], 10, 30), 42)
        self.check([(20, 5), (0, 10), (20, 400), (0, 31)], [(25, 9), (0, 4), (25, 8)], 0, 60)

    def test_rows_that_have_changed(self):
        steps = [(0, 3100)]
        gauges = [(0, 100)]
        self.assertEqual(owed(steps, gauges, 0, 30), 3100)
        steps.append((0, 6200))
        self.assertEqual(owed(steps, gauges, 0, 30), 6200)
        gauges.append((30, 200))
        self.assertEqual(owed(steps, gauges, 0, 30), 6400)
        gauges[0] = (0, 50)
        self.assertEqual(owed(steps, gauges, 0, 30), 6800)
        del steps[:]
        self.assertEqual(owed(steps, gauges, 0, 30), 0)

    def test_against_the_sum_of_the_parts(self):
        chance = random.Random(5)
        for start in (0, 36500, 99850):
            for _ in range(80):
                firsts = range(max(0, start - 5), start + 150)
                steps = [(chance.choice(firsts), chance.choice([0, 1, 29, chance.randrange(9999), MOST]))
                         for _ in range(chance.randrange(7))]
                gauges = [(chance.choice(firsts), chance.choice([1, chance.randrange(1, 300), 10 ** 6]))
                          for _ in range(chance.randrange(7))]
                gauges.insert(chance.randrange(len(gauges) + 1), (0, chance.randrange(1, 300)))
                first = chance.randrange(start, start + 150)
                last = chance.randrange(start, start + 150)
                self.check(steps, gauges, first, last)
                self.assertEqual(owed(steps, gauges, first, last), plain.owed(steps, gauges, first, last))


if __name__ == "__main__":
    unittest.main()
