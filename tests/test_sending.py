"""What each letter sends (10), also about days that were billed long ago."""

import unittest

from rentroll.rolls import Roll


class SendingTest(unittest.TestCase):
    def setUp(self):
        self.roll = Roll()

    def says(self, name, *told):
        """Tell a letter; see that all sums stand as they must, and give what is sent."""
        roll = self.roll
        before = [(roll.sent(at), roll.given(at)) for at in range(roll.many())]
        answer = getattr(roll, name)(*told)
        self.assertIs(type(answer), list)
        if name == "let":
            before.append((0, 0))
        after = [list(sums) for sums in before]
        for row in answer:
            self.assertIs(type(row), tuple)
            kind, lease, cents = row
            self.assertNotEqual(cents, 0)
            after[lease][("rent", "pledge").index(kind)] += cents
        for lease, sums in enumerate(after):
            self.assertEqual([roll.sent(lease), roll.given(lease)], sums)
            owed = roll.owed(lease, roll.billed()) if roll.billed() >= 0 else 0
            self.assertEqual(roll.sent(lease), owed)
        order = [(lease, ("rent", "pledge").index(kind)) for kind, lease, _ in answer]
        self.assertEqual(order, sorted(set(order)))
        return answer

    def test_nothing_is_sent_ahead_of_the_first_bill(self):
        self.assertEqual(self.says("let", "a", 0, 3100, True), [])
        self.assertEqual(self.says("step", 0, 5, 9000), [])
        self.assertEqual(self.says("gauge", 3, 200), [])
        self.assertEqual(self.says("end", 0, 50), [])
        self.assertEqual(self.says("rate", 0, 500), [])
        self.assertEqual(self.says("paid", 0, 0, 500), [])
        self.assertEqual(self.roll.sent(0), 0)

    def test_bills(self):
        self.says("let", "a", 0, 3100, False)
        self.assertEqual(self.says("bill", 0), [("rent", 0, 100)])
        self.assertEqual(self.says("bill", 9), [("rent", 0, 900)])
        # Through the same day again nothing is left to send.
        self.assertEqual(self.says("bill", 9), [])
        self.assertEqual(self.says("bill", 9), [])
        self.assertEqual(self.says("bill", 30), [("rent", 0, 2100)])
        self.assertEqual(self.says("bill", 59), [("rent", 0, 3100)])
        self.assertEqual(self.roll.sent(0), 6200)
        self.assertEqual(self.says("bill", 99999), [("rent", 0, 3283 * 3100 + 1500)])

    def test_a_bill_ahead_of_the_first_day_and_behind_the_last(self):
        self.says("let", "a", 10, 3100, False)
        self.says("end", 0, 20)
        self.assertEqual(self.says("bill", 9), [])
        self.assertEqual(self.says("bill", 10), [("rent", 0, 100)])
        self.assertEqual(self.says("bill", 20), [("rent", 0, 1000)])
        self.assertEqual(self.says("bill", 21), [])
        self.assertEqual(self.says("bill", 99999), [])

    def test_a_rent_of_0(self):
        self.says("let", "a", 0, 0, True)
        self.assertEqual(self.says("bill", 500), [])
        self.assertEqual(self.says("step", 0, 0, 1), [("rent", 0, 16)])

    def test_let_late(self):
        self.says("bill", 30)
        self.assertEqual(self.says("let", "a", 0, 3100, False), [("rent", 0, 3100)])
        self.assertEqual(self.says("let", "b", 30, 3100, False), [("rent", 1, 100)])
        self.assertEqual(self.says("let", "c", 31, 3100, False), [])

    def test_a_step_told_late(self):
        self.says("let", "a", 0, 3100, False)
        self.says("bill", 30)
        self.assertEqual(self.says("step", 0, 10, 6200), [("rent", 0, 2100)])
        # The later one about the first day holds, whether it is more or less.
        self.assertEqual(self.says("step", 0, 10, 4650), [("rent", 0, -1050)])
        self.assertEqual(self.says("step", 0, 10, 4650), [])
        self.assertEqual(self.says("step", 0, 10, 3100), [("rent", 0, -1050)])
        self.assertEqual(self.says("step", 0, 0, 0), [("rent", 0, -1000)])
        self.assertEqual(self.says("step", 0, 0, 3100), [("rent", 0, 1000)])
        self.assertEqual(self.says("step", 0, 31, 9000), [])
        self.assertEqual(self.says("step", 0, 30, 6200), [("rent", 0, 100)])
        self.assertEqual(self.roll.sent(0), 3200)

    def test_a_step_between_two_others(self):
        self.says("let", "a", 0, 3100, False)
        self.says("step", 0, 20, 9300)
        self.says("bill", 30)
        self.assertEqual(self.roll.sent(0), 2000 + 3300)
        # It holds from its first day to the day ahead of the later one.
        self.assertEqual(self.says("step", 0, 10, 6200), [("rent", 0, 1000)])

    def test_a_gauge_told_late_and_again(self):
        self.says("let", "a", 0, 3100, True)
        self.says("let", "b", 0, 3100, False)
        self.says("let", "c", 20, 3100, True)
        self.assertEqual(self.says("bill", 30), [("rent", 0, 3100), ("rent", 1, 3100), ("rent", 2, 1100)])
        self.assertEqual(self.says("gauge", 10, 200), [("rent", 0, 2100)])
        self.assertEqual(self.says("gauge", 10, 110), [("rent", 0, -1890)])
        self.assertEqual(self.says("gauge", 30, 220), [("rent", 0, 110), ("rent", 2, 100)])
        self.assertEqual(self.says("gauge", 31, 999), [])
        # It also is the gauge of the first day of a step.
        self.assertEqual(self.says("gauge", 20, 55), [("rent", 0, -550), ("rent", 2, 200)])

    def test_an_end_told_and_told_again(self):
        self.says("let", "a", 0, 3100, False)
        self.says("bill", 59)
        self.assertEqual(self.says("end", 0, 30), [("rent", 0, -3100)])
        self.assertEqual(self.says("end", 0, 9), [("rent", 0, -2100)])
        self.assertEqual(self.says("end", 0, 9), [])
        self.assertEqual(self.says("end", 0, 19), [("rent", 0, 1000)])
        self.assertEqual(self.says("end", 0, 0), [("rent", 0, -1900)])
        self.assertEqual(self.says("end", 0, 59), [("rent", 0, 6100)])
        self.assertEqual(self.says("end", 0, 60), [])
        self.assertEqual(self.says("bill", 70), [("rent", 0, 100)])

    def test_letters_about_an_ended_lease_are_done_like_others(self):
        self.says("let", "a", 0, 3100, True)
        self.says("end", 0, 9)
        self.says("bill", 90)
        self.assertEqual(self.roll.sent(0), 1000)
        self.assertEqual(self.says("step", 0, 5, 6200), [("rent", 0, 500)])
        self.assertEqual(self.says("step", 0, 10, 9300), [])
        self.assertEqual(self.says("gauge", 9, 200), [("rent", 0, 200)])
        self.assertEqual(self.says("paid", 0, 80, 77), [])
        self.assertEqual(self.says("kept", 0, 81, 7), [])
        self.assertEqual(self.says("close", 0, 85), [("pledge", 0, 70)])
        # That later step is told in the money of day 10, in which the gauge is 200 by now.
        self.assertEqual(self.says("end", 0, 10), [("rent", 0, 300)])

    def test_given_is_0_of_a_pledge_that_is_not_closed(self):
        self.says("let", "a", 0, 0, True)
        self.says("paid", 0, 0, 36500)
        self.says("rate", 0, 100)
        self.assertEqual(self.says("bill", 99999), [])
        self.assertEqual(self.roll.given(0), 0)
        self.assertEqual(self.roll.pledge(0, 0), 36501)

    def test_closing(self):
        self.says("let", "a", 0, 0, True)
        self.says("paid", 0, 5, 36500)
        self.says("rate", 0, 100)
        self.assertEqual(self.says("close", 0, 14), [("pledge", 0, 36510)])
        self.assertEqual(self.roll.given(0), 36510)
        self.assertEqual(self.says("bill", 20), [])

    def test_closing_with_nothing_to_give(self):
        self.says("let", "a", 0, 0, True)
        self.assertEqual(self.says("close", 0, 14), [])
        self.assertEqual(self.roll.given(0), 0)
        # It is closed all the same: what comes in now is given.
        self.assertEqual(self.says("paid", 0, 14, 5), [("pledge", 0, 5)])

    def test_closing_on_a_day_ahead_of_all_moves(self):
        self.says("let", "a", 50, 0, True)
        self.says("paid", 0, 20, 500)
        self.assertEqual(self.says("close", 0, 19), [])
        self.assertEqual(self.says("kept", 0, 0, 9), [("pledge", 0, -9)])

    def test_moves_told_behind_the_closing(self):
        self.says("let", "a", 0, 0, True)
        self.says("paid", 0, 0, 500)
        self.says("close", 0, 30)
        self.assertEqual(self.says("paid", 0, 30, 20), [("pledge", 0, 20)])
        self.assertEqual(self.says("kept", 0, 10, 600), [("pledge", 0, -600)])
        self.assertEqual(self.says("kept", 0, 31, 600), [])
        self.assertEqual(self.says("paid", 0, 31, 600), [])
        self.assertEqual(self.roll.given(0), -80)
        self.assertEqual(self.says("paid", 0, 0, 80), [("pledge", 0, 80)])
        self.assertEqual(self.roll.given(0), 0)

    def test_rates_told_behind_the_closing(self):
        for flat in ("a", "b", "c"):
            self.says("let", flat, 0, 0, True)
        self.says("paid", 0, 0, 36500)
        self.says("paid", 1, 0, 36500)
        self.says("paid", 2, 0, 36500)
        self.says("close", 2, 9)
        self.says("close", 0, 19)
        self.assertEqual(self.says("rate", 0, 100), [("pledge", 0, 20), ("pledge", 2, 10)])
        self.assertEqual(self.says("rate", 10, 200), [("pledge", 0, 10)])
        self.assertEqual(self.says("rate", 0, 0), [("pledge", 0, -10), ("pledge", 2, -10)])
        self.assertEqual(self.says("rate", 0, 0), [])
        self.assertEqual(self.says("rate", 20, 10 ** 4), [])
        self.assertEqual([self.roll.given(lease) for lease in range(3)], [36520, 0, 36500])

    def test_order_by_lease_and_rent_ahead_of_pledge(self):
        for flat in ("d", "c", "b", "a"):
            self.says("let", flat, 0, 3100, True)
        for lease in (3, 1, 0):
            self.says("close", lease, 9)
        self.says("paid", 1, 0, 365000)
        self.says("paid", 3, 0, 730000)
        self.assertEqual(self.says("bill", 9), [("rent", lease, 1000) for lease in range(4)])
        self.assertEqual(self.says("rate", 0, 100), [("pledge", 1, 100), ("pledge", 3, 200)])
        self.says("end", 1, 9)
        self.assertEqual(self.says("gauge", 5, 200), [("rent", lease, 500) for lease in range(4)])
        self.assertEqual(self.says("step", 1, 9, 3100), [("rent", 1, -100)])

    def test_a_difference_below_0_is_sent(self):
        self.says("let", "a", 0, 3100, True)
        self.says("bill", 30)
        self.assertEqual(self.says("gauge", 0, 200), [])
        self.assertEqual(self.says("gauge", 10, 100), [("rent", 0, -1050)])

    def test_days_that_were_billed_long_ago(self):
        self.says("let", "a", 0, 3100, True)
        self.says("let", "b", 0, 3100, True)
        self.says("bill", 99999)
        self.assertEqual(self.says("step", 0, 0, 3131), [("rent", 0, 3285 * 31 + 15)])
        self.assertEqual(self.says("step", 0, 31, 3100), [("rent", 0, -3284 * 31 - 15)])
        self.assertEqual(self.says("end", 1, 30), [("rent", 1, -3284 * 3100 - 1500)])
        self.assertEqual(self.says("let", "b", 31, 3100, True), [("rent", 2, 3284 * 3100 + 1500)])
        self.assertEqual(self.says("gauge", 99999, 200), [("rent", 0, 100), ("rent", 2, 100)])

    def test_the_difference_is_of_what_was_sent_so_far(self):
        self.says("let", "a", 0, 1000, True)
        sent = 0
        for letter in [("bill", 3), ("step", 0, 2, 777), ("bill", 40), ("gauge", 17, 131), ("end", 0, 33),
                       ("step", 0, 20, 5), ("gauge", 17, 103), ("end", 0, 38), ("bill", 90), ("step", 0, 0, 999)]:
            answer = self.says(*letter)
            sent += sum(cents for _, _, cents in answer)
            self.assertEqual(self.roll.sent(0), sent)


if __name__ == "__main__":
    unittest.main()
