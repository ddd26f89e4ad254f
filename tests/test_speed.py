"""Questions and letters over the whole calendar, within their time."""

import time
import unittest

from rentroll.pledges import grown
from rentroll.rents import owed
from rentroll.rolls import Roll

LAST = 99999
ASKED = 1000


class SpeedTest(unittest.TestCase):
    def test_owed_over_the_whole_calendar(self):
        steps = [(at * 19999, 100000 + at) for at in range(5)]
        gauges = [(at * 17171, 100 + 7 * at) for at in range(5)]
        begun = time.perf_counter()
        for more in range(ASKED):
            # Another row each time: an answer that was kept is of no use.
            steps[0] = (0, 100000 + more)
            owed(steps, gauges, 0, LAST)
        self.assertLess(time.perf_counter() - begun, 20)

    def test_grown_over_the_whole_calendar(self):
        moves = [(at * 2477, 5000 * at - 60000) for at in range(40)]
        rates = [(at * 18181, 100 * at) for at in range(5)]
        begun = time.perf_counter()
        for more in range(ASKED):
            moves[0] = (0, more)
            grown(moves, rates, LAST)
        self.assertLess(time.perf_counter() - begun, 20)

    def test_letters_to_a_full_roll(self):
        roll = Roll()
        for at in range(20):
            roll.let("abcdefghijklmnopqrst"[at], 0, 100000 + at, True)
            roll.paid(at, at, 500000)
            roll.close(at, LAST - at)
        for at in range(10):
            roll.gauge(at * 9876, 100 + 3 * at)
            roll.rate(at * 8765, 100 + 50 * at)
        roll.bill(LAST)
        for letter in [("gauge", 500, 99), ("rate", 500, 777), ("step", 0, 5, 5), ("paid", 3, 7, 8), ("kept", 3, 9, 8),
                       ("end", 19, 50000), ("bill", LAST), ("end", 19, 60000), ("gauge", 0, 1), ("rate", 0, 1)]:
            begun = time.perf_counter()
            getattr(roll, letter[0])(*letter[1:])
            self.assertLess(time.perf_counter() - begun, 2, letter)
        for lease in range(20):
            self.assertEqual(roll.sent(lease), roll.owed(lease, LAST))
            self.assertEqual(roll.given(lease), roll.pledge(lease, LAST - lease))


if __name__ == "__main__":
    unittest.main()
