import unittest

from tests.line import HIGHEST, begun, buy, coat, days, days_to, gauge, last, lend, make, start, string
from tests.line import tail, whole, wood


class CoatTest(unittest.TestCase):
    def test_four_coats_each_dry_on_the_very_day(self):
        asked = [coat(), days(9), coat(), days(1), coat(), days(10), coat(), days(10), coat(), coat()]
        self.assertEqual(tail(begun(days=10), asked),
                         [[10], [9], [-13], [10], [20], [20], [30], [30], [40], [-17]])

    def test_dries_from_the_day_of_the_coat(self):
        self.assertEqual(tail(begun(days=10), [days(7), coat(), days(100), coat()]), [[7], [17], [107], [117]])

    def test_drying_days(self):
        for drying in (1, 60):
            asked = [coat(), coat(), days(drying), coat()]
            self.assertEqual(tail(begun(days=drying), asked), [[drying], [-13], [drying], [2 * drying]])

    def test_dry_beyond_the_last_day(self):
        self.assertEqual(tail(begun(days=60) + days_to(20000), [coat(), coat()]), [[20060], [-13]])

    def test_four_ahead_of_not_dry(self):
        calls = begun(days=2) + [coat(), days(2)] * 3 + [coat()]
        self.assertEqual(tail(calls, [coat(), days(1), coat(), days(1), coat()])[::2], [[-17], [-17], [-17]])

    def test_none_there(self):
        self.assertEqual(tail([start()], [coat()]), [[-2]])
        self.assertEqual(tail(begun(), [coat(1), coat(HIGHEST)]), [[-2], [-2]])

    def test_lent_or_sold(self):
        self.assertEqual(tail(whole(), [coat(), lend(), coat()]), [[-17], [0], [-71]])
        self.assertEqual(tail(whole(), [buy(), coat()]), [[1000], [-71]])

    def test_each_instrument_dries_by_itself(self):
        calls = [start(days=5)] + wood(2) + [make(), make()]
        self.assertEqual(tail(calls, [coat(0), days(3), coat(1), coat(0), days(2), coat(0), coat(1)]),
                         [[5], [3], [8], [-13], [5], [10], [-13]])

    def test_three_coats_hold_no_string(self):
        calls = begun() + [gauge()] + [coat(), days(1)] * 3
        self.assertEqual(last(calls + [string()]), [-13])


if __name__ == "__main__":
    unittest.main()
