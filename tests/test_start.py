import unittest

from tests.line import HIGHEST, aged, back, begun, best, coat, days, gauge, last, make, owes, plank, pupil
from tests.line import start, tail, tell, thin, view, whole, give_back, lend, buy


class StartTest(unittest.TestCase):
    def test_answers_0(self):
        self.assertEqual(tell([start()]), [[0]])

    def test_days_from_1_to_60(self):
        for told, answer in ((0, -22), (1, 0), (60, 0), (61, -22), (HIGHEST, -22)):
            self.assertEqual(last([start(days=told)]), [answer], told)

    def test_rent_to_1000(self):
        for told, answer in ((0, 0), (1000, 0), (1001, -22), (HIGHEST, -22)):
            self.assertEqual(last([start(rent=told)]), [answer], told)

    def test_most_from_1_to_1000000(self):
        for told, answer in ((0, -22), (1, 0), (1000000, 0), (1000001, -22), (HIGHEST, -22)):
            self.assertEqual(last([start(most=told)]), [answer], told)

    def test_each_weight_from_1_to_20(self):
        for zone in range(6):
            for told, answer in ((0, -22), (1, 0), (20, 0), (21, -22), (HIGHEST, -22)):
                weights = [7] * 6
                weights[zone] = told
                self.assertEqual(last([start(weights=weights)]), [answer], (zone, told))

    def test_several_faults_are_one_refusal(self):
        self.assertEqual(tell([start(0, 1001, 0, [0] * 6)]), [[-22]])

    def test_refused_ahead_of_one_that_is_not(self):
        self.assertEqual(tell([start(0), start(), plank()]), [[-22], [0], [0]])

    def test_again_all_is_as_at_first(self):
        calls = whole() + [start(), aged(0), best(0), coat(0), lend(0, 0), give_back(0)]
        self.assertEqual(tell(calls)[-6:], [[0], [-2], [-33], [-2], [-2], [-2]])
        self.assertEqual(view(whole() + [lend(), days(3), back(), start()]), view([start()]))
        numbers = [days(5), plank(), gauge(), pupil()]
        self.assertEqual(tail(whole() + [start()], numbers), [[5], [0], [0], [0]])

    def test_again_nothing_counts_for_a_pupil(self):
        lent = [lend(), days(100), give_back()]
        self.assertEqual(last(whole() + lent + whole() + [buy(price=700)]), [700])

    def test_again_tells_the_rent_anew(self):
        lent = [lend(), days(10), owes()]
        self.assertEqual(last(whole(rent=3) + whole(rent=8) + lent), [80, 0])
        self.assertEqual(last(whole(rent=3) + [start(rent=1001)] + lent), [30, 0])

    def test_again_tells_anew(self):
        calls = begun(days=1, weights=[1] * 6) + begun(days=9, weights=[2] * 6)
        self.assertEqual(tail(calls, [thin(), coat()]), [[598], [9]])

    def test_refused_again_all_stays(self):
        calls = begun(days=3, weights=[1] * 6) + [days(4), start(days=61, weights=[2] * 6)]
        self.assertEqual(tail(calls, [thin(), coat(), days(1), make()]), [[299], [7], [5], [-33]])


if __name__ == "__main__":
    unittest.main()
