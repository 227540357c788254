import unittest

from tests.line import HIGHEST, days, days_to, last, start, tail


class DaysTest(unittest.TestCase):
    def test_which_day_it_is(self):
        self.assertEqual(tail([start()], [days(1), days(1), days(3000), days(10)]), [[1], [2], [3002], [3012]])

    def test_n_from_1_to_3000(self):
        for n, answer in ((0, -22), (1, 1), (3000, 3000), (3001, -22), (HIGHEST, -22)):
            self.assertEqual(last([start(), days(n)]), [answer], n)

    def test_day_20000_is_the_last(self):
        calls = [start()] + days_to(19999)
        self.assertEqual(tail(calls, [days(2), days(1), days(1), days(3000)]), [[-75], [20000], [-75], [-75]])
        self.assertEqual(tail([start()] + days_to(17000), [days(3000)]), [[20000]])
        self.assertEqual(tail([start()] + days_to(17001), [days(3000), days(2999)]), [[-75], [20000]])

    def test_wrong_n_ahead_of_too_late(self):
        calls = [start()] + days_to(20000)
        self.assertEqual(tail(calls, [days(0), days(3001), days(HIGHEST)]), [[-22], [-22], [-22]])


if __name__ == "__main__":
    unittest.main()
