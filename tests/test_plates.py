import unittest

from tests.line import HIGHEST, begun, buy, coat, days, fewest, last, lend, make, pitch, start
from tests.line import tail, tell, thin, tune, whole, wood, zones


class ThinTest(unittest.TestCase):
    def test_each_zone_with_its_weight(self):
        # All zones at 50 are pitched 50 * (1 + 2 + 3 + 4 + 5 + 6) = 1050.
        asked = [thin(0, 0, zone) for zone in range(6)]
        self.assertEqual(tail(begun(), asked), [[1049], [1047], [1044], [1040], [1035], [1029]])

    def test_plates_keep_apart(self):
        self.assertEqual(tail(begun(), [thin(0, 0, 5), thin(0, 1, 0), thin(0, 0, 5)]), [[1044], [1049], [1038]])

    def test_down_to_20(self):
        asked = [thin(0, 1, 5)] * 31
        self.assertEqual(tail(begun(), asked), [[1050 - 6 * n] for n in range(1, 31)] + [[-12]])

    def test_another_zone_when_one_is_20(self):
        asked = [thin(0, 0, 0)] * 31 + [thin(0, 0, 1), thin(0, 1, 0)]
        self.assertEqual(tail(begun(), asked)[-3:], [[-12], [1018], [1049]])

    def test_greatest_weights(self):
        self.assertEqual(last(begun(weights=[20] * 6) + [thin()]), [5980])

    def test_plate_and_zone(self):
        for plate in (2, HIGHEST):
            self.assertEqual(last(begun() + [thin(0, plate, 0)]), [-22])
        for zone in (6, HIGHEST):
            self.assertEqual(last(begun() + [thin(0, 1, zone)]), [-22])

    def test_none_there(self):
        self.assertEqual(tail([start()], [thin(0), thin(0, 2, 6)]), [[-2], [-2]])
        self.assertEqual(tail(begun(), [thin(1), thin(HIGHEST), thin(1, 2, 6)]), [[-2], [-2], [-2]])

    def test_one_that_has_a_coat(self):
        self.assertEqual(tail(begun(), [coat(), thin(), days(5), thin()])[1::2], [[-16], [-16]])

    def test_lent_or_sold(self):
        self.assertEqual(tail(whole(), [lend(), thin(), thin(0, 2, 6)]), [[0], [-71], [-71]])
        self.assertEqual(tail(whole(), [buy(), thin(), thin(0, 2, 6)]), [[1000], [-71], [-71]])

    def test_refusals_in_their_order(self):
        thinned = begun() + [thin()] * 30
        self.assertEqual(tail(thinned, [thin(), coat(), thin(0, 0, 6), thin(0, 2, 0), thin()]),
                         [[-12], [1], [-22], [-22], [-16]])


class TuneTest(unittest.TestCase):
    def test_how_many_scrapes(self):
        # Pitched 1050; the zone of weight 6 is scraped first.
        for want, answer in ((1050, 0), (1049, 1), (1044, 1), (1043, 2), (870, 30), (869, 31), (865, 31), (864, 32)):
            self.assertEqual(last(begun() + [tune(0, 0, want)]), [answer], want)

    def test_a_pitch_that_is_there_already(self):
        for want in (1050, 1051, HIGHEST):
            self.assertEqual(tail(begun(), [tune(0, 1, want), thin(0, 1, 0)]), [[0], [1049]])

    def test_down_to_the_lowest_pitch(self):
        asked = [tune(0, 0, 419), tune(0, 0, 420), tune(0, 0, 420), tune(0, 0, 419), thin()]
        self.assertEqual(tail(begun(), asked), [[-33], [180], [0], [-33], [-12]])

    def test_want_0(self):
        self.assertEqual(last(begun() + [tune(0, 0, 0)]), [-33])

    def test_the_scrapes_are_done(self):
        asked = [tune(0, 0, 868), thin(0, 0, 5), thin(0, 0, 4), thin(0, 0, 0), thin(0, 1, 0)]
        self.assertEqual(tail(begun(), asked), [[31], [-12], [860], [859], [1049]])

    def test_second_plate(self):
        asked = [tune(0, 1, 870), thin(0, 1, 5), thin(0, 0, 5)]
        self.assertEqual(tail(begun(), asked), [[30], [-12], [1044]])

    def test_of_like_weights_the_first(self):
        calls = begun(weights=[3, 9, 2, 9, 9, 1])
        asked = [tune(0, 0, 1650 - 270), thin(0, 0, 1), thin(0, 0, 3)]
        asked += [tune(0, 0, 1650 - 540), thin(0, 0, 3), thin(0, 0, 4)]
        self.assertEqual(tail(calls, asked), [[30], [-12], [1371], [29], [-12], [1101]])

    def test_all_weights_alike(self):
        calls = begun(weights=[20] * 6)
        asked = [tune(0, 0, 5401), thin(0, 0, 0), thin(0, 0, 1)]
        self.assertEqual(tail(calls, asked), [[30], [-12], [5380]])

    def test_after_some_were_thinned(self):
        asked = [thin(0, 0, 5)] * 29 + [tune(0, 0, 1050 - 29 * 6 - 7), thin(0, 0, 5), thin(0, 0, 4)]
        self.assertEqual(tail(begun(), asked)[-3:], [[2], [-12], [1050 - 30 * 6 - 10]])

    def test_plate(self):
        for plate, answer in ((1, 1), (2, -22), (HIGHEST, -22)):
            self.assertEqual(last(begun() + [tune(0, plate, 1049)]), [answer])

    def test_none_there(self):
        self.assertEqual(tail(begun(), [tune(1, 0, 1049), tune(HIGHEST, 2, 0)]), [[-2], [-2]])

    def test_one_that_has_a_coat(self):
        self.assertEqual(tail(begun(), [coat(), tune(0, 0, 1049), tune(0, 0, 1050)]), [[1], [-16], [-16]])

    def test_lent_or_sold(self):
        self.assertEqual(tail(whole(), [lend(), tune(), tune(0, 2)]), [[0], [-71], [-71]])
        self.assertEqual(tail(whole(), [buy(), tune(), tune(0, 2)]), [[1000], [-71], [-71]])

    def test_refusals_in_their_order(self):
        self.assertEqual(tail(begun(), [tune(0, 2, 0), coat(), tune(0, 2, 0), tune(0, 1, 0)]),
                         [[-22], [1], [-22], [-16]])

    def test_another_instrument_stays(self):
        calls = [start()] + wood(2) + [make(), make()]
        self.assertEqual(tell(calls + [tune(0, 0, 420), tune(1, 0, 420)])[-2:], [[180], [180]])


class PitchTest(unittest.TestCase):
    def test_each_zone_with_its_weight(self):
        # All zones at 50 are pitched 50 * (1 + 2 + 3 + 4 + 5 + 6) = 1050.
        for zone in range(6):
            calls = begun() + [thin(0, 1, zone)]
            self.assertEqual(tail(calls, [pitch(0, 0), pitch(0, 1)]), [[1050], [1050 - zone - 1]])

    def test_plates_and_instruments_keep_apart(self):
        calls = [start()] + wood(2) + [make(), make(), tune(0, 1, 1040), thin(1, 0, 0)]
        asked = [pitch(0, 0), pitch(0, 1), pitch(1, 0), pitch(1, 1)]
        self.assertEqual(tail(calls, asked), [[1050], [1038], [1049], [1050]])

    def test_lowest_and_highest(self):
        self.assertEqual(tail(begun(weights=[20] * 6), [pitch()]), [[6000]])
        self.assertEqual(tail(begun(weights=[1] * 6), [tune(0, 0, 120), pitch()]), [[180], [120]])

    def test_none_there_ahead_of_a_wrong_plate(self):
        self.assertEqual(tail([start()], [pitch(0, 0), pitch(0, 2)]), [[-2], [-2]])
        self.assertEqual(tail(begun(), [pitch(1, 0), pitch(1, 2), pitch(HIGHEST, 0)]), [[-2]] * 3)

    def test_plate(self):
        self.assertEqual(tail(begun(), [pitch(0, 2), pitch(0, HIGHEST), pitch(0, 1)]), [[-22], [-22], [1050]])

    def test_whatever_its_coats_and_wherever_it_is(self):
        self.assertEqual(tail(begun(), [coat(), pitch()]), [[1], [1050]])
        for gone in (lend(), buy()):
            self.assertEqual(tail(whole(), [gone, pitch(), pitch(0, 2)])[1:], [[1050], [-22]])


class FewestTest(unittest.TestCase):
    def test_how_many_and_the_pitch_then(self):
        wanted = ((1050, 0, 1050), (1049, 1, 1044), (1044, 1, 1044), (1043, 2, 1038), (870, 30, 870), (869, 31, 865),
                  (865, 31, 865), (864, 32, 860), (421, 179, 421), (420, 180, 420))
        for want, count, then in wanted:
            self.assertEqual(last(begun() + [fewest(0, 0, want)]), [count, then], want)

    def test_a_pitch_that_is_there_already(self):
        for want in (1050, 1051, HIGHEST):
            self.assertEqual(last(begun() + [fewest(0, 1, want)]), [0, 1050])

    def test_as_the_tuning_does_it(self):
        calls = begun(weights=[3, 9, 2, 9, 9, 1]) + [thin(0, 1, 1), thin(0, 1, 4)]
        for want in range(660, 1660, 13):
            asked = [fewest(0, 1, want), tune(0, 1, want), pitch(0, 1), fewest(0, 1, want)]
            first, tuned, then, behind = tail(calls, asked)
            self.assertEqual(first, tuned + then)
            self.assertEqual(behind, [0] + then)

    def test_it_only_asks(self):
        asked = [fewest(0, 0, 420), pitch(), zones(), fewest(0, 0, 420)]
        self.assertEqual(tail(begun(), asked), [[180, 420], [1050], [300] + [50] * 6, [180, 420]])

    def test_it_can_not_come_to_it(self):
        self.assertEqual(tail(begun(), [fewest(0, 0, 419), fewest(0, 1, 0), fewest(0, 0, 420)]),
                         [[-33], [-33], [180, 420]])
        thinned = begun() + [tune(0, 0, 420)]
        self.assertEqual(tail(thinned, [fewest(0, 0, 419), fewest(0, 0, 420)]), [[-33], [0, 420]])

    def test_a_coat_is_not_looked_at(self):
        self.assertEqual(tail(begun(), [coat(), fewest(0, 0, 1049), fewest(0, 0, 419)]), [[1], [1, 1044], [-33]])

    def test_wherever_it_is(self):
        for gone in (lend(), buy()):
            asked = [gone, fewest(0, 0, 1049), fewest(0, 2, 1049), fewest(0, 1, 0)]
            self.assertEqual(tail(whole(), asked)[1:], [[1, 1044], [-22], [-33]])

    def test_refusals_in_their_order(self):
        self.assertEqual(tail([start()], [fewest(0, 2, 0), fewest(0, 0, 1050)]), [[-2], [-2]])
        asked = [fewest(1, 2, 0), fewest(HIGHEST, 0, 1050), fewest(0, 2, 0), fewest(0, HIGHEST, 1050), fewest(0, 1, 0)]
        self.assertEqual(tail(begun(), asked), [[-2], [-2], [-22], [-22], [-33]])


class ZonesTest(unittest.TestCase):
    def test_all_together_then_each(self):
        calls = begun() + [thin(0, 0, 5)] * 3 + [thin(0, 0, 0), thin(0, 1, 2)]
        self.assertEqual(tail(calls, [zones(0, 0), zones(0, 1)]),
                         [[296, 49, 50, 50, 50, 50, 47], [299, 50, 50, 49, 50, 50, 50]])

    def test_at_first_and_at_least(self):
        self.assertEqual(tail(begun(), [zones(0, 1), tune(0, 1, 420), zones(0, 1)]),
                         [[300] + [50] * 6, [180], [120] + [20] * 6])

    def test_after_the_fewest_scrapes(self):
        calls = begun(weights=[3, 9, 2, 9, 9, 1]) + [tune(0, 0, 1650 - 281)]
        self.assertEqual(last(calls + [zones()]), [268, 50, 20, 50, 48, 50, 50])

    def test_refusals_in_their_order(self):
        self.assertEqual(tail([start()], [zones(), zones(0, 2)]), [[-2], [-2]])
        asked = [zones(1, 2), zones(HIGHEST, 0), zones(0, 2), zones(0, HIGHEST)]
        self.assertEqual(tail(begun(), asked), [[-2], [-2], [-22], [-22]])

    def test_wherever_it_is(self):
        for gone in (lend(), buy()):
            self.assertEqual(tail(whole(), [gone, zones(), zones(0, 2)])[1:], [[300] + [50] * 6, [-22]])


if __name__ == "__main__":
    unittest.main()
