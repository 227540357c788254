import unittest

from tests.line import HIGHEST, begun, buy, coat, days, days_to, gauge, give_back, grow, last, lend, make, owes, pupil
from tests.line import size_of, small, start, string, strung, tail, unstring, varnished, whole, wood


def two_whole(**told):
    """Instruments 0 and 1, both whole and of size 7, and pupils 0 and 1 whom they fit."""
    calls = [start(**told)] + wood(2) + [make(), make(), gauge()]
    calls += [coat(0), coat(1), days(1)] * 4
    return calls + strung(0) + strung(1) + [pupil(600), pupil(600)]


class LendTest(unittest.TestCase):
    def test_answers_0(self):
        self.assertEqual(last(whole() + [lend()]), [0])

    def test_none_there(self):
        self.assertEqual(tail(whole(), [lend(0, 1), lend(1, 0), lend(0, HIGHEST), lend(HIGHEST, 0)]), [[-2]] * 4)
        self.assertEqual(tail([start()], [lend()]), [[-2]])

    def test_none_there_ahead_of_lent(self):
        self.assertEqual(tail(whole(), [lend(), lend(0, 1), lend(0, 0)]), [[0], [-2], [-71]])

    def test_lent_or_sold(self):
        calls = whole() + [pupil(600)]
        self.assertEqual(tail(calls, [lend(), lend(0, 0), lend(0, 1)]), [[0], [-71], [-71]])
        self.assertEqual(tail(calls, [buy(), lend(0, 0), lend(0, 1)]), [[1000], [-71], [-71]])

    def test_one_is_lent_to_them_already(self):
        self.assertEqual(tail(two_whole(), [lend(0, 0), lend(1, 0), lend(1, 1)]), [[0], [-17], [0]])

    def test_one_they_gave_back_is_lent_no_more(self):
        self.assertEqual(tail(two_whole(), [lend(0, 0), give_back(0), lend(1, 0)]), [[0], [0, 0], [0]])

    def test_one_they_bought_is_not_lent(self):
        self.assertEqual(tail(two_whole(), [buy(0, 0), lend(1, 0)]), [[1000], [0]])

    def test_without_a_string(self):
        for s in range(4):
            self.assertEqual(tail(whole(), [unstring(0, s), lend(), string(0, s), lend()])[1::2], [[-13], [0]])

    def test_without_coats_or_strings(self):
        calls = begun() + [pupil(600), gauge()]
        self.assertEqual(last(calls + [lend()]), [-13])
        self.assertEqual(last(calls + varnished() + [lend()]), [-13])

    def test_size_for_the_arm(self):
        arms = (300, 380, 420, 450, 480, 520, 560, 590, 801)
        for size in range(8):
            for arm, answer in ((arms[size] - 1, -16), (arms[size], 0), (arms[size + 1] - 1, 0), (arms[size + 1], -16)):
                if 300 <= arm <= 800:
                    self.assertEqual(last(whole(size=size, arm=arm) + [lend()]), [answer], (size, arm))

    def test_refusals_in_their_order(self):
        calls = [start()] + wood(3) + [make(7), make(7), make(7), gauge(), pupil(600), pupil(300)]
        calls += varnished(0) + strung(0) + [lend(0, 0)]
        # 1 is lent to pupil 0, who asks for one that isn't whole; pupil 1 for one that is neither whole nor fits.
        self.assertEqual(tail(calls, [lend(1, 0), lend(1, 1), lend(0, 1)]), [[-17], [-13], [-71]])
        self.assertEqual(tail(calls, [give_back(0), lend(0, 1)]), [[0, 0], [-16]])
        fitting = two_whole() + [pupil(300), lend(0, 0)]
        self.assertEqual(tail(fitting, [lend(0, 2), lend(1, 2)]), [[-71], [-16]])

    def test_already_lent_ahead_of_the_size(self):
        calls = [start()] + wood(2) + [make(7), make(0), gauge(), pupil(600)]
        calls += varnished(0) + varnished(1) + strung(0) + strung(1)
        self.assertEqual(tail(calls, [lend(1, 0), lend(0, 0), lend(1, 0)]), [[-16], [0], [-17]])


class ReturnTest(unittest.TestCase):
    def test_the_rent_and_the_pupil(self):
        self.assertEqual(tail(whole(rent=7), [lend(), days(30), give_back()]), [[0], [34], [210, 0]])
        calls = two_whole(rent=7) + [lend(0, 1), lend(1, 0), days(5)]
        self.assertEqual(tail(calls, [give_back(0), days(1), give_back(1)]), [[35, 1], [10], [42, 0]])

    def test_on_the_same_day(self):
        self.assertEqual(tail(whole(), [lend(), give_back()]), [[0], [0, 0]])

    def test_since_it_was_lent(self):
        asked = [days(100), lend(), days(1), give_back(), days(50), lend(), days(2), give_back()]
        self.assertEqual(tail(whole(rent=9), asked)[3::4], [[9, 0], [18, 0]])

    def test_no_rent(self):
        self.assertEqual(tail(whole(rent=0), [lend(), days(3000), give_back(), buy(price=1)])[2:], [[0, 0], [1]])

    def test_the_greatest_rent(self):
        calls = whole(rent=1000) + [lend()] + days_to(20000, 4)
        self.assertEqual(tail(calls, [give_back(), buy(price=1000000)]), [[19996000, 0], [0]])

    def test_none_there(self):
        self.assertEqual(tail(whole(), [give_back(1), give_back(HIGHEST)]), [[-2], [-2]])

    def test_not_lent(self):
        self.assertEqual(tail(whole(), [give_back(), lend(), give_back(), give_back()]), [[-6], [0], [0, 0], [-6]])
        self.assertEqual(tail(whole(), [buy(), give_back()]), [[1000], [-6]])

    def test_it_is_in_the_shop_and_whole(self):
        calls = whole() + [pupil(700), lend(), days(1), give_back()]
        self.assertEqual(tail(calls, [lend(0, 1)]), [[0]])
        self.assertEqual(tail(calls, [unstring(0, 2)]), [[0]])
        self.assertEqual(tail(calls, [coat()]), [[-17]])


class BuyTest(unittest.TestCase):
    def test_the_price_is_paid(self):
        for price, answer in ((0, -22), (1, 1), (1000000, 1000000), (1000001, -22), (HIGHEST, -22)):
            self.assertEqual(last(whole() + [buy(price=price)]), [answer])

    def test_half_the_rent_counts_rounded_down(self):
        for rent, counts in ((10, 15), (7, 10), (1, 1)):
            self.assertEqual(last(whole(rent=rent) + [lend(), days(3), give_back(), buy(price=100)]), [100 - counts])

    def test_each_rent_is_halved_by_itself(self):
        lent = [lend(), days(1), give_back()]
        self.assertEqual(last(whole(rent=7) + lent * 3 + [buy(price=100)]), [91])

    def test_no_more_than_the_price_is_used_up(self):
        calls = two_whole(rent=10) + [lend(), days(30), give_back()]
        self.assertEqual(tail(calls, [buy(0, 0, 149)]), [[0]])
        self.assertEqual(tail(calls, [buy(0, 0, 150)]), [[0]])
        self.assertEqual(tail(calls, [buy(0, 0, 151)]), [[1]])
        self.assertEqual(tail(calls, [buy(0, 0, 120), buy(1, 0, 100)]), [[0], [70]])
        self.assertEqual(tail(calls, [buy(0, 0, 500), buy(1, 0, 100)]), [[350], [100]])

    def test_it_counts_for_that_pupil_alone(self):
        calls = two_whole(rent=10) + [lend(0, 1), days(30), give_back()]
        self.assertEqual(tail(calls, [buy(0, 0, 500), buy(1, 1, 500)]), [[500], [350]])

    def test_rent_so_far_does_not_count_yet(self):
        calls = two_whole(rent=10) + [lend(0, 0), days(30)]
        self.assertEqual(tail(calls, [buy(1, 0, 500), give_back(0), buy(0, 0, 500)]), [[500], [300, 0], [350]])

    def test_none_there(self):
        self.assertEqual(tail(whole(), [buy(0, 1), buy(1, 0), buy(0, HIGHEST), buy(HIGHEST, 0)]), [[-2]] * 4)
        self.assertEqual(tail(whole(), [lend(), buy(0, 1, 0), buy(1, 0, 0)]), [[0], [-2], [-2]])

    def test_lent_or_sold(self):
        calls = whole() + [pupil(600)]
        self.assertEqual(tail(calls, [lend(), buy(0, 0), buy(0, 1, 0)]), [[0], [-71], [-71]])
        self.assertEqual(tail(calls, [buy(), buy(0, 0), buy(0, 1, 0)]), [[1000], [-71], [-71]])

    def test_not_whole(self):
        self.assertEqual(tail(begun() + [pupil()], [buy(), buy(0, 0, 0)]), [[-13], [-22]])
        self.assertEqual(tail(whole(), [unstring(0, 3), buy(), buy(0, 0, 1000001)]), [[0], [-13], [-22]])

    def test_of_whatever_size(self):
        self.assertEqual(last(whole(arm=300) + [buy()]), [1000])

    def test_several_by_one_pupil_and_while_one_is_lent(self):
        self.assertEqual(tail(two_whole(), [buy(0, 0), buy(1, 0)]), [[1000], [1000]])
        self.assertEqual(tail(two_whole(), [lend(0, 0), buy(1, 0)]), [[0], [1000]])

    def test_sold_ones_still_take_room(self):
        calls = whole() + wood()[:4] * 2 + [make(), make(), buy()]
        self.assertEqual(tail(calls + wood()[:4], [make()]), [[-28]])


class SizeOfTest(unittest.TestCase):
    def test_the_size_then_the_arm(self):
        sizes = ((300, 0), (379, 0), (380, 1), (419, 1), (420, 2), (449, 2), (450, 3), (479, 3), (480, 4),
                 (519, 4), (520, 5), (559, 5), (560, 6), (589, 6), (590, 7), (800, 7))
        for arm, size in sizes:
            self.assertEqual(last([start(), pupil(arm), size_of()]), [size, arm, 0], arm)

    def test_the_instrument_that_is_lent_to_them(self):
        calls = two_whole() + [pupil(400)]
        asked = [lend(1, 0), size_of(0), size_of(1), lend(0, 1), size_of(0), size_of(1), size_of(2)]
        self.assertEqual(tail(calls, asked),
                         [[0], [7, 600, 2], [7, 600, 0], [0], [7, 600, 2], [7, 600, 1], [1, 400, 0]])

    def test_given_back(self):
        self.assertEqual(tail(whole(), [lend(), give_back(), size_of()])[2], [7, 600, 0])

    def test_a_sold_one_is_not_lent(self):
        self.assertEqual(tail(two_whole(), [buy(0, 0), size_of(0), lend(1, 0), size_of(0)])[1::2],
                         [[7, 600, 0], [7, 600, 2]])

    def test_grown(self):
        self.assertEqual(tail(whole(arm=589, size=6), [lend(), grow(0, 11), size_of()])[2], [7, 600, 1])

    def test_none_there(self):
        self.assertEqual(tail([start()], [size_of()]), [[-2]])
        self.assertEqual(tail(whole(), [size_of(1), size_of(HIGHEST)]), [[-2], [-2]])


class SmallTest(unittest.TestCase):
    def lent_at_every_size(self):
        """Instruments of size 2, 3 and 6, lent to the pupils 9, 0 and 4 whom they fit to the millimetre."""
        calls = [start()] + wood(3) + [make(2), make(3), make(6), gauge()]
        calls += [coat(0), coat(1), coat(2), days(1)] * 4 + strung(0) + strung(1) + strung(2)
        calls += [pupil(arm) for arm in (479, 700, 700, 700, 589, 300, 300, 300, 300, 449)]
        return calls + [lend(0, 9), lend(1, 0), lend(2, 4)]

    def test_how_many_then_as_bits(self):
        asked = [small(), grow(9), small(), grow(4), small(), grow(0), small()]
        self.assertEqual(tail(self.lent_at_every_size(), asked)[::2],
                         [[0, 0], [1, 512], [2, 512 + 16], [3, 512 + 16 + 1]])

    def test_one_that_is_given_back_is_out(self):
        calls = self.lent_at_every_size() + [grow(9), grow(0)]
        self.assertEqual(tail(calls, [small(), give_back(0), small(), give_back(1), small()])[::2],
                         [[2, 513], [1, 1], [0, 0]])

    def test_a_sold_one_is_not_lent(self):
        calls = whole(arm=600, size=3)
        self.assertEqual(tail(calls, [buy(), small()])[1], [0, 0])

    def test_of_the_same_size_still(self):
        calls = whole(arm=380, size=1)
        self.assertEqual(tail(calls, [lend(), grow(0, 39), small(), grow(0, 1), small()])[2::2], [[0, 0], [1, 1]])

    def test_no_pupils(self):
        self.assertEqual(last([start(), small()]), [0, 0])


class OwesTest(unittest.TestCase):
    def test_the_rent_so_far_then_what_counts(self):
        asked = [owes(), lend(), owes(), days(3), owes(), days(2), owes(), give_back(), owes()]
        self.assertEqual(tail(whole(rent=7), asked)[::2], [[0, 0], [0, 0], [21, 0], [35, 0], [0, 17]])

    def test_what_counts_grows_by_each_half(self):
        lent = [lend(), days(1), give_back()]
        self.assertEqual(last(whole(rent=7) + lent * 3 + [owes()]), [0, 9])
        self.assertEqual(last(whole(rent=7) + lent + [lend(), days(5), owes()]), [35, 3])

    def test_what_a_purchase_uses_up(self):
        calls = two_whole(rent=10) + [lend(), days(30), give_back()]
        self.assertEqual(tail(calls, [buy(0, 0, 120), owes(), buy(1, 0, 100), owes()])[1::2], [[0, 30], [0, 0]])
        self.assertEqual(tail(calls, [buy(0, 0, 150), owes()])[1], [0, 0])

    def test_bought_ones_cost_no_rent(self):
        self.assertEqual(tail(whole(), [buy(), days(5), owes()])[2], [0, 0])

    def test_each_pupil_by_themselves(self):
        calls = two_whole(rent=7) + [lend(0, 1), days(2), lend(1, 0), days(3)]
        self.assertEqual(tail(calls, [owes(0), owes(1), give_back(0), owes(0), owes(1)]),
                         [[21, 0], [35, 0], [35, 1], [21, 0], [0, 17]])

    def test_the_greatest_rent(self):
        calls = whole(rent=1000) + [lend()] + days_to(20000, 4)
        self.assertEqual(tail(calls, [owes(), give_back(), owes()]), [[19996000, 0], [19996000, 0], [0, 9998000]])

    def test_none_there(self):
        self.assertEqual(tail([start()], [owes()]), [[-2]])
        self.assertEqual(tail(whole(), [owes(1), owes(HIGHEST)]), [[-2], [-2]])


if __name__ == "__main__":
    unittest.main()
