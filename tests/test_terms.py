import itertools
import unittest

from rentroll.terms import held, pair_held


def plainly_held(terms, day):
    """The same answer by another way: the last of the row as sorted by first."""
    begun = [pair for pair in terms if pair[0] <= day]
    ordered = sorted(begun, key=lambda pair: pair[0])
    return ordered[-1] if ordered else None


class TermsTest(unittest.TestCase):
    def check(self, terms, day, pair):
        before = list(terms)
        self.assertEqual(pair_held(terms, day), pair)
        self.assertEqual(held(terms, day), None if pair is None else pair[1])
        self.assertEqual(terms, before)

    def test_empty_row(self):
        self.check([], 0, None)
        self.check([], 99999, None)

    def test_one_pair(self):
        row = [(10, 500)]
        self.check(row, 9, None)
        self.check(row, 10, (10, 500))
        self.check(row, 11, (10, 500))
        self.check(row, 99999, (10, 500))

    def test_from_day_0_on(self):
        self.check([(0, 7)], 0, (0, 7))
        self.check([(0, 7)], 99999, (0, 7))

    def test_day_ahead_of_all_firsts(self):
        row = [(20, 1), (10, 2), (30, 3)]
        self.check(row, 0, None)
        self.check(row, 9, None)

    def test_first_on_the_last_day(self):
        self.check([(99999, 4)], 99998, None)
        self.check([(99999, 4)], 99999, (99999, 4))

    def test_firsts_in_any_order(self):
        pairs = [(0, 5), (10, 9), (20, 1), (30, 7)]
        for row in itertools.permutations(pairs):
            row = list(row)
            for day, pair in [(0, 0), (9, 0), (10, 1), (19, 1), (20, 2), (29, 2), (30, 3), (31, 3)]:
                with self.subTest(row=row, day=day):
                    self.check(row, day, pairs[pair])

    def test_of_the_same_first_the_last_in_the_row(self):
        self.check([(10, 1), (10, 2), (10, 3)], 10, (10, 3))
        self.check([(10, 3), (10, 2), (10, 1)], 10, (10, 1))
        self.check([(10, 3), (0, 8), (10, 1)], 15, (10, 1))
        self.check([(10, 1), (20, 9), (10, 2), (0, 4)], 19, (10, 2))
        self.check([(10, 1), (20, 9), (10, 2), (0, 4)], 20, (20, 9))
        self.check([(0, 4), (0, 0)], 0, (0, 0))

    def test_a_later_row_does_not_beat_a_greater_first(self):
        self.check([(20, 1), (10, 2)], 25, (20, 1))
        self.check([(20, 1), (10, 2)], 19, (10, 2))

    def test_value_0_holds(self):
        self.check([(0, 6), (5, 0)], 5, (5, 0))

    def test_values_are_not_looked_at(self):
        row = [(5, "b"), (5, None), (0, 3)]
        self.check(row, 4, (0, 3))
        self.check(row, 5, (5, None))

    def test_a_changed_row_is_answered_as_it_is_now(self):
        row = [(0, 1)]
        self.check(row, 50, (0, 1))
        row.append((50, 2))
        self.check(row, 50, (50, 2))
        row[1] = (51, 3)
        self.check(row, 50, (0, 1))
        row[0] = (0, 4)
        self.check(row, 50, (0, 4))
        row.insert(0, (40, 5))
        self.check(row, 50, (40, 5))
        del row[:]
        self.check(row, 50, None)

    def test_all_small_rows(self):
        firsts = [0, 1, 2]
        for many in range(5):
            for told in itertools.product(firsts, repeat=many):
                row = [(first, at) for at, first in enumerate(told)]
                for day in range(4):
                    with self.subTest(row=row, day=day):
                        self.check(row, day, plainly_held(row, day))


if __name__ == "__main__":
    unittest.main()
