"""What is told of an instrument: whether it's whole, free, what it's made of, where it is."""

import unittest

from tests.line import HIGHEST, begun, buy, coat, days, days_to, free, gauge, give_back, last, lend, look, make, plank
from tests.line import pupil, start, string, strung, tail, unstring, varnished, whole, wholeness, wood


def three(*sizes, **told):
    """Instruments 0, 1 and 2, all of them whole, of gauge 0, and pupil 0 whom size 7 fits."""
    calls = [start(**told)] + wood(3) + [make(size) for size in sizes] + [gauge()]
    calls += [coat(0), coat(1), coat(2), days(1)] * 4
    return calls + strung(0) + strung(1) + strung(2) + [pupil(600)]


class WholenessTest(unittest.TestCase):
    def test_as_it_is_made(self):
        self.assertEqual(last(begun(days=60) + [wholeness()]), [0, 0, 0])
        self.assertEqual(last([start(days=60)] + wood() + days_to(5000) + [make(), wholeness()]), [0, 0, 0])

    def test_how_many_coats_and_in_how_many_days_it_is_dry(self):
        asked = [coat(), wholeness(), days(1), wholeness(), days(1), wholeness(), days(1), wholeness(), days(1),
                 wholeness(), coat(), wholeness()]
        self.assertEqual(tail(begun(days=3), asked)[1::2],
                         [[0, 1, 3], [0, 1, 2], [0, 1, 1], [0, 1, 0], [0, 1, 0], [0, 2, 3]])

    def test_whole_with_the_last_string(self):
        calls = begun() + varnished() + [gauge()]
        asked = [wholeness(), string(0, 3), wholeness(), string(0, 0), wholeness(), string(0, 2), wholeness(),
                 string(0, 1), wholeness(), unstring(0, 3), wholeness()]
        self.assertEqual(tail(calls, asked)[::2], [[0, 4, 0]] * 4 + [[1, 4, 0], [0, 4, 0]])

    def test_four_coats_not_dry(self):
        calls = begun(days=2) + [coat(), days(2)] * 3 + [coat()]
        self.assertEqual(tail(calls, [wholeness(), days(1), wholeness(), days(1), wholeness()])[::2],
                         [[0, 4, 2], [0, 4, 1], [0, 4, 0]])

    def test_dry_beyond_the_last_day(self):
        self.assertEqual(last(begun(days=60) + days_to(20000) + [coat(), wholeness()]), [0, 1, 60])

    def test_wherever_it_is(self):
        self.assertEqual(tail(whole(), [wholeness(), lend(), wholeness(), give_back(), wholeness()])[::2],
                         [[1, 4, 0]] * 3)
        self.assertEqual(tail(whole(), [buy(), wholeness()])[1], [1, 4, 0])

    def test_each_by_itself(self):
        calls = [start(days=5)] + wood(2) + [make(), make(), coat(1), days(2), coat(0)]
        self.assertEqual(tail(calls, [wholeness(0), wholeness(1)]), [[0, 1, 5], [0, 1, 3]])

    def test_none_there(self):
        self.assertEqual(tail([start()], [wholeness()]), [[-2]])
        self.assertEqual(tail(begun(), [wholeness(1), wholeness(HIGHEST)]), [[-2], [-2]])


class FreeTest(unittest.TestCase):
    def test_how_many_then_as_bits(self):
        calls = three(7, 3, 7)
        asked = [free(size) for size in range(8)]
        self.assertEqual(tail(calls, asked), [[0, 0]] * 3 + [[1, 2]] + [[0, 0]] * 3 + [[2, 5]])
        self.assertEqual(last(three(0, 0, 0) + [free(0)]), [3, 7])

    def test_lent_and_sold_ones_are_out(self):
        calls = three(7, 7, 7)
        self.assertEqual(tail(calls, [lend(1), free(), buy(0), free(), give_back(1), free(), buy(2), free()])[1::2],
                         [[2, 5], [1, 4], [2, 6], [1, 2]])

    def test_those_that_are_not_whole_are_out(self):
        asked = [unstring(0, 2), free(), unstring(2, 0), free(), string(0, 2), free()]
        self.assertEqual(tail(three(7, 7, 7), asked)[1::2], [[2, 6], [1, 2], [2, 3]])
        self.assertEqual(tail(begun() + varnished(), [free()]), [[0, 0]])

    def test_size(self):
        self.assertEqual(tail([start()], [free(7), free(8), free(HIGHEST), free(0)]), [[0, 0], [-22], [-22], [0, 0]])
        self.assertEqual(tail(three(7, 7, 7), [free(8)]), [[-22]])


class LookTest(unittest.TestCase):
    def test_size_then_planks_then_0_in_the_shop(self):
        calls = [start(), plank(1, 5), plank(0, 2), plank(1, 5), plank(0, 2), make(3)]
        self.assertEqual(last(calls + [look()]), [3, 1, 3, 0, 2, 0])

    def test_each_size(self):
        for size in range(8):
            self.assertEqual(last(begun(size=size) + [look()]), [size, 0, 1, 2, 3, 0])

    def test_each_instrument(self):
        calls = [start()] + wood(3) + [make(0), make(7), make(4)]
        self.assertEqual(tail(calls, [look(0), look(1), look(2)]),
                         [[0, 0, 1, 2, 3, 0], [7, 4, 5, 6, 7, 0], [4, 8, 9, 10, 11, 0]])

    def test_lent_to_each_pupil(self):
        calls = whole() + [pupil(600)] * 9
        for p in range(10):
            self.assertEqual(tail(calls, [lend(0, p), look(), give_back(), look()])[1::2],
                             [[7, 0, 1, 2, 3, p + 1], [7, 0, 1, 2, 3, 0]])

    def test_sold_to_each_pupil(self):
        calls = whole() + [pupil(600)] * 9
        for p in range(10):
            self.assertEqual(tail(calls, [buy(0, p), look()])[1], [7, 0, 1, 2, 3, p + 101])

    def test_a_sold_one_stays_sold(self):
        asked = [lend(), days(3), give_back(), buy(), days(5), look(), give_back(), look()]
        self.assertEqual(tail(whole(), asked)[5:], [[7, 0, 1, 2, 3, 101], [-6], [7, 0, 1, 2, 3, 101]])

    def test_none_there(self):
        self.assertEqual(tail([start()], [look()]), [[-2]])
        self.assertEqual(tail(begun(), [look(1), look(HIGHEST)]), [[-2], [-2]])


if __name__ == "__main__":
    unittest.main()
