import unittest

from tests.line import HIGHEST, begun, buy, coat, days, last, lend, start, tail, tell, thin, tune, whole, wood, make


class ThinTest(unittest.TestCase):
    def test_each_zone_with_its_weight(self):
        # All zones at 50 are pitched 50 * (1 + 2 + 3 + 4 + 5 + 6) = 1050.
        asked = [thin(0, 0, zone) for zone in range(6)]
        self.assertEqual(tail(begun(), asked), [[1049], [1047], [1044], [1040], [1035], [1029]])

    def test_plates_keep_apart(self):
        self.assertEqual(tail(begun(), [thin(0, 0, 5), thin(0, 1, 0), thin(0, 0, 5)]), [[1044], [1049], [1038]])

    def test_down_to_20(self):
        asked = [thin(0, 1, 5)] * 31
        self.assertEqual(tail(begun(), asked), [[1050 - 6 * n] for n in range(1, 31)] + [[-12]])

    def test_another_zone_when_one_is_20(self):
        asked = [thin(0, 0, 0)] * 31 + [thin(0, 0, 1), thin(0, 1, 0)]
        self.assertEqual(tail(begun(), asked)[-3:], [[-12], [1018], [1049]])

    def test_greatest_weights(self):
        self.assertEqual(last(begun(weights=[20] * 6) + [thin()]), [5980])

    def test_plate_and_zone(self):
        for plate in (2, HIGHEST):
            self.assertEqual(last(begun() + [thin(0, plate, 0)]), [-22])
        for zone in (6, HIGHEST):
            self.assertEqual(last(begun() + [thin(0, 1, zone)]), [-22])

    def test_none_there(self):
        self.assertEqual(tail([start()], [thin(0), thin(0, 2, 6)]), [[-2], [-2]])
        self.assertEqual(tail(begun(), [thin(1), thin(HIGHEST), thin(1, 2, 6)]), [[-2], [-2], [-2]])

    def test_one_that_has_a_coat(self):
        self.assertEqual(tail(begun(), [coat(), thin(), days(5), thin()])[1::2], [[-16], [-16]])

    def test_lent_or_sold(self):
        self.assertEqual(tail(whole(), [lend(), thin(), thin(0, 2, 6)]), [[0], [-71], [-71]])
        self.assertEqual(tail(whole(), [buy(), thin(), thin(0, 2, 6)]), [[1000], [-71], [-71]])

    def test_refusals_in_their_order(self):
        thinned = begun() + [thin()] * 30
        self.assertEqual(tail(thinned, [thin(), coat(), thin(0, 0, 6), thin(0, 2, 0), thin()]),
                         [[-12], [1], [-22], [-22], [-16]])


class TuneTest(unittest.TestCase):
    def test_how_many_scrapes(self):
        # Pitched 1050; the zone of weight 6 is scraped first.
        for want, answer in ((1050, 0), (1049, 1), (1044, 1), (1043, 2), (870, 30), (869, 31), (865, 31), (864, 32)):
            self.assertEqual(last(begun() + [tune(0, 0, want)]), [answer], want)

    def test_a_pitch_that_is_there_already(self):
        for want in (1050, 1051, HIGHEST):
            self.assertEqual(tail(begun(), [tune(0, 1, want), thin(0, 1, 0)]), [[0], [1049]])

    def test_down_to_the_lowest_pitch(self):
        asked = [tune(0, 0, 419), tune(0, 0, 420), tune(0, 0, 420), tune(0, 0, 419), thin()]
        self.assertEqual(tail(begun(), asked), [[-33], [180], [0], [-33], [-12]])

    def test_want_0(self):
        self.assertEqual(last(begun() + [tune(0, 0, 0)]), [-33])

    def test_the_scrapes_are_done(self):
        asked = [tune(0, 0, 868), thin(0, 0, 5), thin(0, 0, 4), thin(0, 0, 0), thin(0, 1, 0)]
        self.assertEqual(tail(begun(), asked), [[31], [-12], [860], [859], [1049]])

    def test_second_plate(self):
        asked = [tune(0, 1, 870), thin(0, 1, 5), thin(0, 0, 5)]
        self.assertEqual(tail(begun(), asked), [[30], [-12], [1044]])

    def test_of_like_weights_the_first(self):
        calls = begun(weights=[3, 9, 2, 9, 9, 1])
        asked = [tune(0, 0, 1650 - 270), thin(0, 0, 1), thin(0, 0, 3)]
        asked += [tune(0, 0, 1650 - 540), thin(0, 0, 3), thin(0, 0, 4)]
        self.assertEqual(tail(calls, asked), [[30], [-12], [1371], [29], [-12], [1101]])

    def test_all_weights_alike(self):
        calls = begun(weights=[20] * 6)
        asked = [tune(0, 0, 5401), thin(0, 0, 0), thin(0, 0, 1)]
        self.assertEqual(tail(calls, asked), [[30], [-12], [5380]])

    def test_after_some_were_thinned(self):
        asked = [thin(0, 0, 5)] * 29 + [tune(0, 0, 1050 - 29 * 6 - 7), thin(0, 0, 5), thin(0, 0, 4)]
        self.assertEqual(tail(begun(), asked)[-3:], [[2], [-12], [1050 - 30 * 6 - 10]])

    def test_plate(self):
        for plate, answer in ((1, 1), (2, -22), (HIGHEST, -22)):
            self.assertEqual(last(begun() + [tune(0, plate, 1049)]), [answer])

    def test_none_there(self):
        self.assertEqual(tail(begun(), [tune(1, 0, 1049), tune(HIGHEST, 2, 0)]), [[-2], [-2]])

    def test_one_that_has_a_coat(self):
        self.assertEqual(tail(begun(), [coat(), tune(0, 0, 1049), tune(0, 0, 1050)]), [[1], [-16], [-16]])

    def test_lent_or_sold(self):
        self.assertEqual(tail(whole(), [lend(), tune(), tune(0, 2)]), [[0], [-71], [-71]])
        self.assertEqual(tail(whole(), [buy(), tune(), tune(0, 2)]), [[1000], [-71], [-71]])

    def test_refusals_in_their_order(self):
        self.assertEqual(tail(begun(), [tune(0, 2, 0), coat(), tune(0, 2, 0), tune(0, 1, 0)]),
                         [[-22], [1], [-22], [-16]])

    def test_another_instrument_stays(self):
        calls = [start()] + wood(2) + [make(), make()]
        self.assertEqual(tell(calls + [tune(0, 0, 420), tune(1, 0, 420)])[-2:], [[180], [180]])


if __name__ == "__main__":
    unittest.main()
