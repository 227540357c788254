import unittest

from tests.line import HIGHEST, aged, begun, best, coat, days, days_to, gauge, last, make, plank
from tests.line import start, string, tail, tell, thin, tune, unstring, varnished, wood


class PlankTest(unittest.TestCase):
    def test_numbers_from_0_to_15_then_no_room(self):
        answers = tell([start()] + [plank()] * 17)
        self.assertEqual(answers[1:], [[i] for i in range(16)] + [[-28]])

    def test_kind(self):
        for told, answer in ((0, 0), (1, 0), (2, -22), (HIGHEST, -22)):
            self.assertEqual(last([start(), plank(kind=told)]), [answer], told)

    def test_tree(self):
        for told, answer in ((0, 0), (9, 0), (10, -22), (HIGHEST, -22)):
            self.assertEqual(last([start(), plank(tree=told)]), [answer], told)

    def test_density(self):
        for told, answer in ((0, -22), (299, -22), (300, 0), (800, 0), (801, -22), (HIGHEST, -22)):
            self.assertEqual(last([start(), plank(dense=told)]), [answer], told)

    def test_days_that_it_had_lain(self):
        for told, answer in ((0, 0), (10000, 0), (10001, -22), (HIGHEST, -22)):
            self.assertEqual(last([start(), plank(aged=told)]), [answer], told)

    def test_wrong_ahead_of_no_room(self):
        full = [start()] + [plank()] * 16
        for wrong in (plank(kind=2), plank(tree=10), plank(dense=299), plank(aged=10001)):
            self.assertEqual(last(full + [wrong]), [-22])


class AgedTest(unittest.TestCase):
    def test_tells_a_plank(self):
        calls = [start(), plank(1, 9, 800, 0), plank(0, 3, 300, 10000), aged(0), aged(1)]
        self.assertEqual(tell(calls)[-2:], [[1825, 1, 9, 800, 0], [0, 0, 3, 300, 0]])

    def test_none_there(self):
        for calls in ([start()], [start(), plank()]):
            self.assertEqual(last(calls + [aged(len(calls) - 1)]), [-2])
            self.assertEqual(last(calls + [aged(HIGHEST)]), [-2])

    def test_days_yet_go_down_to_0(self):
        calls = [start(), plank(aged=1823)]
        asked = [aged(), days(1), aged(), days(1), aged(), days(1), aged()]
        self.assertEqual([row[0] for row in tail(calls, asked)[::2]], [2, 1, 0, 0])

    def test_a_plank_that_comes_later_had_lain_by_day_0(self):
        self.assertEqual(last([start(), days(1000), plank(aged=800), aged()]), [25, 0, 0, 500, 0])

    def test_used_when_an_instrument_is_made_of_it(self):
        planks = [plank(0, 1, 500), plank(0, 1, 600), plank(0, 1, 601), plank(1), plank(1)]
        calls = [start()] + planks + [make()] + [aged(i) for i in range(5)]
        self.assertEqual([row[4] for row in tell(calls)[-5:]], [0, 1, 1, 1, 1])


class BestTest(unittest.TestCase):
    def test_kind(self):
        calls = [start(), plank(0, 0, 500), plank(1, 0, 400), plank(1, 0, 410), plank(0, 0, 530)]
        asked = [best(0), best(1), best(2), best(HIGHEST)]
        self.assertEqual(tail(calls, asked), [[30, 0, 3], [10, 1, 2], [-22], [-22]])

    def test_wrong_kind_ahead_of_no_pair(self):
        self.assertEqual(tail([start()], [best(2), best(1), best(0)]), [[-22], [-33], [-33]])

    def test_one_plank_is_no_pair(self):
        self.assertEqual(last([start(), plank(), best()]), [-33])

    def test_of_one_kind_alone(self):
        self.assertEqual(tail([start(), plank(0), plank(1)], [best(0), best(1)]), [[-33], [-33]])

    def test_of_one_tree_alone(self):
        calls = [start(), plank(0, 1, 500), plank(0, 2, 500), plank(0, 2, 800)]
        self.assertEqual(last(calls + [best()]), [300, 1, 2])
        self.assertEqual(last(calls[:3] + [best()]), [-33])

    def test_least_difference_either_way(self):
        calls = [start(), plank(dense=700), plank(dense=400), plank(dense=409), plank(dense=692)]
        self.assertEqual(last(calls + [best()]), [8, 0, 3])

    def test_greatest_difference(self):
        self.assertEqual(last([start(), plank(dense=800), plank(dense=300), best()]), [500, 0, 1])

    def test_of_like_ones_the_lesser_first_number(self):
        calls = [start(), plank(dense=400), plank(dense=500), plank(dense=510), plank(dense=410)]
        self.assertEqual(last(calls + [best()]), [10, 0, 3])

    def test_of_like_ones_then_the_lesser_second_number(self):
        calls = [start(), plank(dense=500), plank(dense=510), plank(dense=490)]
        self.assertEqual(last(calls + [best()]), [10, 0, 1])

    def test_none_differs_less_than_0(self):
        self.assertEqual(last([start(), plank(), plank(), plank(), best()]), [0, 0, 1])

    def test_lain_1825_days(self):
        for lain, answer in ((1824, [-33]), (1825, [0, 0, 1]), (10000, [0, 0, 1])):
            self.assertEqual(last([start(), plank(aged=lain), plank(), best()]), answer)
            self.assertEqual(last([start(), plank(), plank(aged=lain), best()]), answer)

    def test_lain_long_enough_by_now(self):
        calls = [start(), plank(aged=0), plank(aged=0), days(1824), best(), days(1), best()]
        self.assertEqual(tell(calls)[-3:], [[-33], [1825], [0, 0, 1]])

    def test_used_ones_are_out(self):
        calls = begun() + [plank(0, 0, 500), best(0), plank(0, 0, 520), best(0), best(1)]
        self.assertEqual(tell(calls)[-4:], [[-33], [5], [20, 4, 5], [-33]])


class MakeTest(unittest.TestCase):
    def test_tells_its_number_and_planks(self):
        calls = [start()] + wood(3) + [make(0), make(7), make(3)]
        self.assertEqual(tell(calls)[-3:], [[0, 0, 1, 2, 3], [1, 4, 5, 6, 7], [2, 8, 9, 10, 11]])

    def test_the_best_pair_of_kind_0_then_that_of_kind_1(self):
        planks = [plank(1, 5, 300), plank(0, 2, 500), plank(1, 5, 310), plank(0, 2, 490), plank(1, 5, 305)]
        self.assertEqual(last([start()] + planks + [make()]), [0, 1, 3, 0, 4])

    def test_size(self):
        for told, answer in ((0, 0), (7, 0), (8, -22), (HIGHEST, -22)):
            self.assertEqual(last([start()] + wood() + [make(told)])[0], answer, told)

    def test_no_pair_of_one_kind(self):
        for planks in ([], wood()[:2], wood()[2:], wood()[:3], wood()[1:]):
            self.assertEqual(last([start()] + planks + [make()]), [-33])

    def test_planks_that_have_not_lain(self):
        planks = wood()[:3] + [plank(1, 0, 500, 1824)]
        self.assertEqual(tail([start()] + planks, [make(), days(1), make()]), [[-33], [1], [0, 0, 1, 2, 3]])

    def test_each_plank_once(self):
        self.assertEqual(tail(begun(), [make()]), [[-33]])

    def test_refusals_in_their_order(self):
        full = [start()] + wood(3) + [make()] * 3
        self.assertEqual(tail(full, [make(8), make(7)]), [[-22], [-28]])
        self.assertEqual(tail(full, wood()[:4] + [make()])[-1], [-28])
        self.assertEqual(tail([start()], [make(8), make(7)]), [[-22], [-33]])

    def test_new_ones_are_without_coat_dry_and_unstrung(self):
        calls = begun(days=60, weights=[1] * 6) + [gauge()]
        asked = [unstring(), string(), tune(0, 0, 300), tune(0, 1, 300), thin(0, 1, 5), coat()]
        self.assertEqual(tail(calls, asked), [[-6], [-13], [0], [0], [299], [60]])

    def test_made_on_a_later_day_dry_at_once(self):
        calls = [start(days=60)] + wood() + days_to(5000) + [make(), coat()]
        self.assertEqual(last(calls), [5060])

    def test_instruments_keep_apart(self):
        calls = [start(weights=[1] * 6)] + wood(2) + [make(0), make(7)] + varnished(1) + [gauge(count=2)]
        asked = [thin(0, 0, 0), thin(0, 1, 0), thin(1), string(1, 0, 0), unstring(0, 0), coat(0)]
        pull = 4 * 100 * 328 ** 2 * 65925 ** 2 // 10 ** 13
        self.assertEqual(tail(calls, asked), [[299], [299], [-16], [pull], [-6], [5]])


if __name__ == "__main__":
    unittest.main()
