import unittest

from tests.line import begun, buy, coat, days, gauge, give_back, last, lend, make, plank, pupil, start, string, strung
from tests.line import sums, tail, unstring, varnished, whole, wood


class SumsTest(unittest.TestCase):
    def test_nothing_at_first(self):
        self.assertEqual(last([start(), sums()]), [0, 0, 0, 0])

    def test_planks_that_are_used(self):
        calls = [start()] + wood(3) + [plank()] * 4
        asked = [sums(), make(), sums(), make(), sums(), make(), sums()]
        self.assertEqual([row[1] for row in tail(calls, asked)[::2]], [0, 4, 8, 12])

    def test_strings_that_were_ever_put_on(self):
        calls = begun() + varnished() + [gauge(1, 9)]
        asked = [string(0, 0), sums(), unstring(0, 0), sums(), string(0, 0), sums(), string(0, 0), sums(),
                 string(0, 3), sums()]
        self.assertEqual(tail(calls, asked)[1::2],
                         [[0, 4, 1, 8], [0, 4, 1, 8], [0, 4, 2, 7], [0, 4, 2, 7], [0, 4, 3, 6]])

    def test_on_all_instruments_together(self):
        calls = [start()] + wood(2) + [make(), make(), gauge(1, 5), gauge(1, 5)] + varnished(0) + varnished(1)
        self.assertEqual(last(calls + strung(0) + strung(1, 1) + [sums()]), [0, 8, 8, 2])

    def test_how_many_there_are_of_all_gauges(self):
        asked = [gauge(1, 0), sums(), gauge(2, 100), sums(), gauge(3, 7), sums()]
        self.assertEqual([row[3] for row in tail([start()], asked)[1::2]], [0, 100, 107])
        self.assertEqual(last([start()] + [gauge(1, 100)] * 8 + [sums()]), [0, 0, 0, 800])

    def test_all_that_was_paid(self):
        asked = [lend(), days(3), sums(), give_back(), sums(), lend(), days(2), give_back(), sums()]
        rows = tail(whole(rent=7), asked)
        self.assertEqual([rows[2][0], rows[4][0], rows[8][0]], [0, 21, 35])

    def test_paid_for_it_is_the_rest(self):
        calls = whole(rent=7) + [lend(), days(3), give_back()]
        self.assertEqual(last(calls + [buy(price=100), sums()])[0], 21 + 90)
        self.assertEqual(last(calls + [buy(price=10), sums()])[0], 21)
        self.assertEqual(last(calls + [buy(price=5), sums()])[0], 21)
        self.assertEqual(last(whole() + [buy(price=1000000), sums()]), [1000000, 4, 4, 96])

    def test_what_is_refused_is_not_paid(self):
        calls = whole() + [pupil(600), lend(), days(4)]
        asked = [buy(0, 0, 9), sums(), lend(0, 1), sums(), give_back(1), sums(), give_back(0), give_back(0), sums()]
        self.assertEqual([row[0] for row in tail(calls, asked)], [-71, 0, -71, 0, -2, 0, 40, -6, 40])

    def test_a_start_ends_it(self):
        calls = whole() + [lend(), days(4), give_back(), buy()]
        self.assertEqual(tail(calls, [start(0), sums(), start(), sums()])[1::2], [[1020, 4, 4, 96], [0, 0, 0, 0]])

    def test_other_calls_change_nothing_of_it(self):
        self.assertEqual(tail(whole(), [days(9), coat(), pupil(), sums()])[3], [0, 4, 4, 96])


if __name__ == "__main__":
    unittest.main()
