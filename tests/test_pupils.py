import unittest

from tests.line import HIGHEST, days, grow, last, lend, pupil, start, tail, tell, whole, give_back


class PupilTest(unittest.TestCase):
    def test_numbers_from_0_to_9_then_no_room(self):
        self.assertEqual(tell([start()] + [pupil()] * 11)[1:], [[i] for i in range(10)] + [[-28]])

    def test_arm(self):
        for told, answer in ((0, -22), (299, -22), (300, 0), (800, 0), (801, -22), (HIGHEST, -22)):
            self.assertEqual(last([start(), pupil(told)]), [answer], told)

    def test_wrong_ahead_of_no_room(self):
        self.assertEqual(tail([start()] + [pupil()] * 10, [pupil(299), pupil(801)]), [[-22], [-22]])


class GrowTest(unittest.TestCase):
    def test_size_for_the_arm(self):
        sizes = ((301, 0), (379, 0), (380, 1), (419, 1), (420, 2), (449, 2), (450, 3), (479, 3), (480, 4),
                 (519, 4), (520, 5), (559, 5), (560, 6), (589, 6), (590, 7), (800, 7))
        for arm, size in sizes:
            self.assertEqual(last([start(), pupil(300), grow(0, arm - 300)]), [size], arm)

    def test_it_stays_longer(self):
        self.assertEqual(tail([start(), pupil(379)], [grow(0, 1), grow(0, 39), grow(0, 1)]), [[1], [1], [2]])

    def test_n_0(self):
        self.assertEqual(last([start(), pupil(), grow(0, 0)]), [-22])

    def test_an_arm_of_800_at_the_most(self):
        self.assertEqual(tail([start(), pupil(799)], [grow(0, 2), grow(0, 1), grow(0, 1)]), [[-22], [7], [-22]])
        for n in (501, HIGHEST):
            self.assertEqual(last([start(), pupil(300), grow(0, n)]), [-22])
        self.assertEqual(last([start(), pupil(300), grow(0, 500)]), [7])

    def test_none_there(self):
        self.assertEqual(tail([start()], [grow(0, 1), grow(0, 0)]), [[-2], [-2]])
        self.assertEqual(tail([start(), pupil()], [grow(1, 1), grow(HIGHEST, 0)]), [[-2], [-2]])

    def test_each_pupil_by_themselves(self):
        calls = [start(), pupil(300), pupil(379)]
        self.assertEqual(tail(calls, [grow(0, 1), grow(1, 1), grow(0, 78)]), [[0], [1], [0]])

    def test_while_one_is_lent_to_them(self):
        asked = [lend(), grow(0, 10), days(3), give_back(), lend()]
        self.assertEqual(tail(whole(arm=589, size=6), asked), [[0], [7], [7], [30, 0], [-16]])


if __name__ == "__main__":
    unittest.main()
