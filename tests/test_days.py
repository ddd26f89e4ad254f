import datetime
import unittest

from rentroll.days import day_of, month_days, month_of
from rentroll.errors import BadDay, RentError
from things import far_numbers, no_numbers

COMMON = [31, 28, 31, 30, 31, 30, 31, 31, 30, 31, 30, 31]
LEAP = [31, 29, 31, 30, 31, 30, 31, 31, 30, 31, 30, 31]


class MonthDaysTest(unittest.TestCase):
    def test_months_of_a_common_year(self):
        for year in (2001, 2002, 2003, 2100, 2200, 2273):
            self.assertEqual([month_days(year, month) for month in range(1, 13)], COMMON, year)

    def test_months_of_a_leap_year(self):
        for year in (2000, 2004, 2096, 2104, 2272):
            self.assertEqual([month_days(year, month) for month in range(1, 13)], LEAP, year)

    def test_february(self):
        for year, many in [(2000, 29), (2001, 28), (2004, 29), (2100, 28), (2200, 28)]:
            self.assertEqual(month_days(year, 2), many, year)

    def test_leap_years(self):
        leaps = [year for year in range(2000, 2274) if month_days(year, 2) == 29]
        told = [year for year in range(2000, 2274, 4) if year not in (2100, 2200)]
        self.assertEqual(leaps, told)

    def test_bounds_of_the_year(self):
        self.assertEqual(month_days(2000, 1), 31)
        self.assertEqual(month_days(2273, 12), 31)
        for year in (1999, 2274, 1600, 2400, 0, 1, -1, -2000, 12, 10 ** 9):
            for month in (1, 2, 12):
                with self.subTest(year=year, month=month), self.assertRaises(BadDay):
                    month_days(year, month)

    def test_bounds_of_the_month(self):
        for year in (2000, 2001, 2273):
            self.assertEqual(month_days(year, 1), 31)
            self.assertEqual(month_days(year, 12), 31)
            for month in (0, 13, -1, -11, -12, 2000, 10 ** 9):
                with self.subTest(year=year, month=month), self.assertRaises(BadDay):
                    month_days(year, month)

    def test_other_things(self):
        for name, thing in no_numbers() + far_numbers():
            with self.subTest(thing=name):
                with self.assertRaises(BadDay):
                    month_days(thing, 1)
                with self.assertRaises(BadDay):
                    month_days(2000, thing)
                with self.assertRaises(BadDay):
                    month_days(thing, thing)

    def test_the_refusal_is_a_rent_error(self):
        with self.assertRaises(RentError) as refused:
            month_days(2000, 13)
        self.assertIs(refused.exception.__class__, BadDay)


class MonthOfTest(unittest.TestCase):
    def test_day_0(self):
        self.assertEqual(month_of(0), (2000, 1, 1))

    def test_some_days(self):
        told = [
            (30, (2000, 1, 31)), (31, (2000, 2, 1)), (59, (2000, 2, 29)), (60, (2000, 3, 1)),
            (365, (2000, 12, 31)), (366, (2001, 1, 1)), (424, (2001, 2, 28)), (425, (2001, 3, 1)),
            (99999, (2273, 10, 15)),
        ]
        for day, date in told:
            self.assertEqual(month_of(day), date)
            self.assertEqual(day_of(*date), day)

    def test_an_answer_is_a_tuple_of_whole_numbers(self):
        for day in (0, 59, 99999):
            date = month_of(day)
            self.assertIs(date.__class__, tuple)
            self.assertEqual([part.__class__ for part in date], [int, int, int])

    def test_through_all_days(self):
        year, month, number = 2000, 1, 1
        for day in range(100000):
            self.assertEqual(month_of(day), (year, month, number))
            self.assertEqual(day_of(year, month, number), day)
            number += 1
            if number > month_days(year, month):
                number = 1
                month += 1
            if month > 12:
                month = 1
                year += 1

    def test_against_the_calendar_of_the_library(self):
        start = datetime.date(2000, 1, 1)
        for day in range(100000):
            date = start + datetime.timedelta(days=day)
            self.assertEqual(month_of(day), (date.year, date.month, date.day))

    def test_bounds(self):
        self.assertEqual(month_of(99999)[0], 2273)
        for day in (-1, 100000, 100001, -366, 10 ** 9):
            with self.subTest(day=day), self.assertRaises(BadDay):
                month_of(day)

    def test_other_things(self):
        for name, thing in no_numbers() + far_numbers():
            with self.subTest(thing=name), self.assertRaises(BadDay):
                month_of(thing)


class DayOfTest(unittest.TestCase):
    def test_ends_of_all_months(self):
        for year in range(2000, 2274):
            for month in range(1, 13):
                if (year, month) >= (2273, 10):
                    break
                many = month_days(year, month)
                first = day_of(year, month, 1)
                last = day_of(year, month, many)
                self.assertEqual(last - first, many - 1)
                self.assertEqual(month_of(last), (year, month, many))

    def test_numbers_that_the_month_lacks(self):
        told = [
            (2001, 1, 0), (2001, 2, 29), (2001, 2, 30), (2000, 2, 30), (2100, 2, 29),
            (2200, 2, 29), (2001, 4, 31), (2000, 6, 31), (2000, 9, 31), (2000, 11, 31),
            (2000, 1, 32), (2001, 12, 32), (2000, 1, -1), (2000, 3, -1), (2000, 3, 0),
            (2001, 3, 366), (2001, 5, 10 ** 9),
        ]
        for date in told:
            with self.subTest(date=date), self.assertRaises(BadDay):
                day_of(*date)

    def test_last_numbers_of_the_month(self):
        self.assertEqual(day_of(2000, 2, 29), 59)
        self.assertEqual(day_of(2001, 2, 28), 424)
        self.assertEqual(day_of(2000, 1, 31), 30)
        self.assertEqual(day_of(2000, 4, 30), 120)

    def test_dates_behind_the_last_day(self):
        self.assertEqual(day_of(2273, 10, 15), 99999)
        for date in [(2273, 10, 16), (2273, 10, 31), (2273, 11, 1), (2273, 12, 31)]:
            with self.subTest(date=date), self.assertRaises(BadDay):
                day_of(*date)

    def test_no_such_month(self):
        for date in [(1999, 12, 31), (2274, 1, 1), (2000, 0, 1), (2000, 13, 1), (2000, -1, 1)]:
            with self.subTest(date=date), self.assertRaises(BadDay):
                day_of(*date)

    def test_other_things(self):
        for name, thing in no_numbers() + far_numbers():
            for date in [(thing, 1, 1), (2000, thing, 1), (2000, 1, thing), (thing, thing, thing)]:
                with self.subTest(thing=name), self.assertRaises(BadDay):
                    day_of(*date)

    def test_things_handed_in_stay_as_they_were(self):
        row = [2000]
        table = {1: 1}
        for date in [(row, 1, 1), (2000, table, 1), (2000, 1, row)]:
            with self.assertRaises(BadDay):
                day_of(*date)
        self.assertEqual(row, [2000])
        self.assertEqual(table, {1: 1})


if __name__ == "__main__":
    unittest.main()
