import itertools
import unittest

from rentroll.spans import in_order, spans
from rentroll.terms import pair_held


class SpansTest(unittest.TestCase):
    def test_in_order(self):
        row = [(20, 1), (0, 5), (20, 2), (10, 3), (0, 4)]
        before = list(row)
        self.assertEqual(in_order(row), [(0, 4), (10, 3), (20, 2)])
        self.assertEqual(in_order([]), [])
        self.assertEqual(row, before)

    def test_spans(self):
        row = [(20, 1), (0, 5), (10, 3)]
        self.assertEqual(spans(row, 0, 99), [(0, 9, (0, 5)), (10, 19, (10, 3)), (20, 99, (20, 1))])
        self.assertEqual(spans(row, 15, 20), [(15, 19, (10, 3)), (20, 20, (20, 1))])
        self.assertEqual(spans(row, 12, 12), [(12, 12, (10, 3))])
        self.assertEqual(spans(row, 13, 12), [])
        self.assertEqual(spans([], 0, 99), [])
        self.assertEqual(spans([(5, 1)], 0, 4), [])
        self.assertEqual(spans([(5, 1)], 0, 5), [(5, 5, (5, 1))])

    def test_all_small_rows(self):
        for many in range(4):
            for told in itertools.product(range(4), repeat=many):
                row = [(first, at) for at, first in enumerate(told)]
                for first, last in itertools.product(range(5), repeat=2):
                    found = spans(row, first, last)
                    days = [(day, pair) for begin, end, pair in found for day in range(begin, end + 1)]
                    held = [(day, pair_held(row, day)) for day in range(first, last + 1)]
                    self.assertEqual(days, [(day, pair) for day, pair in held if pair is not None])


if __name__ == "__main__":
    unittest.main()
