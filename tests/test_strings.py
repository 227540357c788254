import unittest

from tests.line import HIGHEST, begun, buy, coat, days, gauge, give_back, last, lend, make, nearest, pull, pulls
from tests.line import start, stock, string, strung, tail, tell, unstring, varnished, whole, wood

LENGTHS = (190, 215, 240, 260, 280, 305, 320, 328)
HERTZ = (65925, 44000, 29366, 19600)


def ready(*gauges, **told):
    """One varnished instrument, without strings, and gauges."""
    drying = told.get("days", 1)
    return begun(**told) + varnished(0, drying) + list(gauges)


def parts(mass, size, s):
    return 4 * mass * LENGTHS[size] * LENGTHS[size] * HERTZ[s] * HERTZ[s]


class GaugeTest(unittest.TestCase):
    def test_numbers_from_0_to_7_then_no_room(self):
        self.assertEqual(tell([start()] + [gauge()] * 9)[1:], [[i] for i in range(8)] + [[-28]])

    def test_mass(self):
        for told, answer in ((0, -22), (1, 0), (10000, 0), (10001, -22), (HIGHEST, -22)):
            self.assertEqual(last([start(), gauge(mass=told)]), [answer], told)

    def test_count(self):
        for told, answer in ((0, 0), (100, 0), (101, -22), (HIGHEST, -22)):
            self.assertEqual(last([start(), gauge(count=told)]), [answer], told)

    def test_wrong_ahead_of_no_room(self):
        full = [start()] + [gauge()] * 8
        self.assertEqual(tail(full, [gauge(mass=0), gauge(count=101)]), [[-22], [-22]])


class PullTest(unittest.TestCase):
    def test_written_out(self):
        # 4 * 400 * 328 * 328 * 65,925 * 65,925 is 748,114,284,096,000,000.
        calls = ready(gauge(400), gauge(2600))
        self.assertEqual(tail(calls, [string(0, 0, 0), string(0, 3, 1)]), [[74811], [42982]])

    def test_by_size_and_string_rounded_down(self):
        for size in range(8):
            asked = [string(0, s, 0) for s in range(4)]
            pulls = [[parts(333, size, s) // 10 ** 13] for s in range(4)]
            self.assertEqual(tail(ready(gauge(333), size=size), asked), pulls)

    def test_least_mass(self):
        self.assertEqual(tail(ready(gauge(1), size=0), strung()), [[62], [27], [12], [5]])


class StringTest(unittest.TestCase):
    def test_none_there(self):
        self.assertEqual(tail(ready(gauge()), [string(0, 0, 1), string(0, 0, HIGHEST)]), [[-2], [-2]])
        self.assertEqual(tail(ready(gauge()), [string(1, 0, 0), string(HIGHEST, 0, 0)]), [[-2], [-2]])
        self.assertEqual(tail([start()], [string()]), [[-2]])

    def test_none_there_ahead_of_the_rest(self):
        self.assertEqual(tail(whole(), [lend(), string(0, 4, 1), string(1, 4, 0)]), [[0], [-2], [-2]])
        self.assertEqual(tail(begun() + [gauge()], [string(0, 4, 1), string(1, 4, 0)]), [[-2], [-2]])

    def test_lent_or_sold(self):
        self.assertEqual(tail(whole(), [lend(), string(), string(0, 4, 0)]), [[0], [-71], [-71]])
        self.assertEqual(tail(whole(), [buy(), string(), string(0, 4, 0)]), [[1000], [-71], [-71]])

    def test_s(self):
        for s, answer in ((3, 16), (4, -22), (HIGHEST, -22)):
            self.assertEqual(last(ready(gauge(1)) + [string(0, s, 0)]), [answer])

    def test_varnished_and_dry_on_the_very_day(self):
        calls = begun(days=3) + [gauge(1)] + [coat(), days(3)] * 3
        asked = [string(), coat(), string(), days(2), string(), days(1), string()]
        self.assertEqual(tail(calls, asked), [[-13], [12], [-13], [11], [-13], [12], [187]])

    def test_one_that_is_on(self):
        self.assertEqual(tail(ready(gauge(1), gauge(2)), [string(), string(), string(0, 0, 1)]), [[187], [-17], [-17]])

    def test_none_left_of_the_gauge(self):
        asked = [string(0, 0, 0), string(0, 1, 0), string(0, 2, 0), string(0, 2, 1), string(0, 3, 1)]
        self.assertEqual(tail(ready(gauge(1, 2), gauge(1, 1)), asked), [[187], [83], [-12], [37], [-12]])

    def test_none_of_the_gauge_from_the_first(self):
        self.assertEqual(last(ready(gauge(1, 0)) + [string()]), [-12])

    def test_all_of_100(self):
        asked = [string(), unstring()] * 100 + [string()]
        self.assertEqual(tail(ready(gauge(1, 100)), asked), [[187], [0]] * 100 + [[-12]])

    def test_refused_ones_use_up_none(self):
        asked = [string(0, 4, 0), string(0, 0, 1), string(0, 0, 1), string(0, 0, 0), string(0, 1, 0)]
        calls = ready(gauge(1, 1), gauge(10000, 2), most=1000)
        self.assertEqual(tail(calls, asked), [[-22], [-62], [-62], [187], [-12]])

    def test_most_is_enough_to_the_very_part(self):
        # 3125 milligrams on string 1 of size 0 pull 87,362 thousandths, nothing over.
        self.assertEqual(parts(3125, 0, 1), 87362 * 10 ** 13)
        for most, answer in ((87361, -62), (87362, 87362), (87363, 87362)):
            self.assertEqual(last(ready(gauge(3125), most=most, size=0) + [string(0, 1, 0)]), [answer])

    def test_held_against_most_it_is_exact(self):
        pull = parts(400, 7, 0) // 10 ** 13
        self.assertNotEqual(parts(400, 7, 0), pull * 10 ** 13)
        for most, answer in ((pull, -62), (pull + 1, pull)):
            self.assertEqual(last(ready(gauge(400), most=most) + [string()]), [answer])

    def test_together_exact_sums_are_held_against_most(self):
        pulls = [parts(777, 4, s) for s in range(4)]
        rounded = sum(pull // 10 ** 13 for pull in pulls)
        exact = -(-sum(pulls) // 10 ** 13)
        self.assertLess(rounded + 1, exact)
        told = [[pull // 10 ** 13] for pull in pulls]
        for most in (rounded, exact - 1):
            self.assertEqual(tail(ready(gauge(777), most=most, size=4), strung()), told[:3] + [[-62]])
        self.assertEqual(tail(ready(gauge(777), most=exact, size=4), strung()), told)

    def test_together_to_the_very_part(self):
        # Neither of the two pulls is whole by itself, but together nothing is over.
        low, high = parts(25, 2, 3), parts(1861, 2, 1)
        self.assertNotEqual(low % 10 ** 13, 0)
        self.assertEqual(low + high, 83232 * 10 ** 13)
        for most, answer in ((83231, -62), (83232, low // 10 ** 13)):
            calls = ready(gauge(1861), gauge(25), size=2, most=most)
            self.assertEqual(tail(calls, [string(0, 1, 0), string(0, 3, 1)]), [[high // 10 ** 13], [answer]])

    def test_what_is_off_pulls_no_more(self):
        calls = ready(gauge(400), gauge(200), most=100000)
        asked = [string(0, 0, 0), string(0, 1, 0), unstring(0, 0), string(0, 1, 0), string(0, 0, 1), string(0, 2, 1)]
        self.assertEqual(tail(calls, asked), [[74811], [-62], [0], [33325], [37405], [7422]])

    def test_another_instrument_pulls_by_itself(self):
        calls = [start(most=80000)] + wood(2) + [make(), make()] + varnished(0) + varnished(1) + [gauge(400)]
        self.assertEqual(tail(calls, [string(0), string(1), string(0, 1)]), [[74811], [74811], [-62]])

    def test_refusals_in_their_order(self):
        bare = begun(most=1) + [gauge(10000, 0)]
        self.assertEqual(tail(bare, [string(0, 4), string(0, 3)]), [[-22], [-13]])
        calls = ready(gauge(1, 1), gauge(10000, 0), gauge(10000, 1), most=187 + 1)
        asked = [string(0, 0, 0), string(0, 4, 1), string(0, 0, 1), string(0, 0, 2), string(0, 1, 1), string(0, 1, 2)]
        self.assertEqual(tail(calls, asked), [[187], [-22], [-17], [-17], [-12], [-62]])


class UnstringTest(unittest.TestCase):
    def test_tells_its_gauge(self):
        calls = ready(gauge(1), gauge(2), gauge(3)) + [string(0, 0, 2), string(0, 3, 1)]
        asked = [unstring(0, 0), unstring(0, 3), unstring(0, 0), unstring(0, 1)]
        self.assertEqual(tail(calls, asked), [[2], [1], [-6], [-6]])

    def test_it_is_gone(self):
        self.assertEqual(tail(ready(gauge(1, 1)), [string(), unstring(), string()]), [[187], [0], [-12]])

    def test_another_can_be_put_on(self):
        asked = [string(), unstring(), string(), string()]
        self.assertEqual(tail(ready(gauge(1, 2)), asked), [[187], [0], [187], [-17]])

    def test_s(self):
        self.assertEqual(tail(whole(), [unstring(0, 4), unstring(0, HIGHEST), unstring(0, 3)]), [[-22], [-22], [0]])

    def test_none_there(self):
        self.assertEqual(tail(whole(), [unstring(1), unstring(HIGHEST, 4)]), [[-2], [-2]])

    def test_lent_or_sold(self):
        self.assertEqual(tail(whole(), [lend(), unstring(), unstring(0, 4)]), [[0], [-71], [-71]])
        self.assertEqual(tail(whole(), [buy(), unstring(), unstring(0, 4)]), [[1000], [-71], [-71]])

    def test_wrong_s_ahead_of_not_on(self):
        self.assertEqual(tail(begun(), [unstring(0, 4), unstring(0, 0)]), [[-22], [-6]])


class NearestTest(unittest.TestCase):
    def test_the_gauge_then_its_pull(self):
        calls = [start(), gauge(100), gauge(400), gauge(200)]
        asked = [nearest(7, 0, want) for want in (0, 20000, 37405, 40000, 60000, 74811, 1000000)]
        self.assertEqual(tail(calls, asked), [[0, 18702], [0, 18702], [2, 37405], [2, 37405], [1, 74811], [1, 74811],
                                              [1, 74811]])

    def test_by_size_and_string_rounded_down(self):
        for size in range(8):
            for s in range(4):
                self.assertEqual(last([start(), gauge(333), nearest(size, s, 0)]), [0, parts(333, size, s) // 10 ** 13])

    def test_greatest_pull(self):
        self.assertEqual(last([start(), gauge(10000), nearest(7, 0, 1000000)]), [0, parts(10000, 7, 0) // 10 ** 13])

    def test_of_like_ones_the_least(self):
        calls = [start(), gauge(300), gauge(200), gauge(200), gauge(300)]
        self.assertEqual(tail(calls, [nearest(7, 0, 37000), nearest(7, 0, 57000)]), [[1, 37405], [0, 56108]])

    def test_as_much_above_as_below_is_alike(self):
        # 1,500 and 1,625 milligrams on string 1 of size 0 pull just as far below and above 43,681.
        below, above, wanted = parts(1500, 0, 1), parts(1625, 0, 1), 43681 * 10 ** 13
        self.assertEqual(wanted - below, above - wanted)
        self.assertEqual(last([start(), gauge(1500), gauge(1625), nearest(0, 1, 43681)])[0], 0)
        self.assertEqual(last([start(), gauge(1625), gauge(1500), nearest(0, 1, 43681)])[0], 0)
        self.assertEqual(last([start(), gauge(1), gauge(1625), gauge(1500), nearest(0, 1, 43681)])[0], 1)

    def test_held_against_what_is_wanted_it_is_exact(self):
        for first, second, size, s, want in self.close_ones():
            calls = [start(), gauge(first), gauge(second)]
            self.assertEqual(last(calls + [nearest(size, s, want)])[0], 1, (first, second, size, s, want))

    def close_ones(self):
        """Two gauges the second of which is nearer, though not if pulls were rounded down."""
        found = []
        for size in range(8):
            for s in range(4):
                for first, second in ((3, 4), (4, 3), (10, 13), (13, 10), (21, 20), (999, 1000), (1000, 999)):
                    one, other = parts(first, size, s), parts(second, size, s)
                    for want in (one // 10 ** 13, other // 10 ** 13, (one + other) // (2 * 10 ** 13)):
                        rounded = [abs(pulled // 10 ** 13 - want) for pulled in (one, other)]
                        exact = [abs(pulled - want * 10 ** 13) for pulled in (one, other)]
                        if rounded[0] <= rounded[1] and exact[1] < exact[0]:
                            found.append((first, second, size, s, want))
        self.assertGreater(len(found), 10)
        return found

    def test_whether_there_are_any_is_not_looked_at(self):
        calls = [start(), gauge(200, 0), gauge(400, 5)]
        self.assertEqual(last(calls + [nearest(7, 0, 40000)]), [0, 37405])
        calls = ready(gauge(200, 1), gauge(400, 5)) + [string(0, 0, 0)]
        self.assertEqual(last(calls + [nearest(7, 0, 40000)]), [0, 37405])

    def test_size_string_and_want(self):
        wrong = [nearest(8, 0, 0), nearest(HIGHEST, 0, 0), nearest(0, 4, 0), nearest(0, HIGHEST, 0),
                 nearest(0, 0, 1000001), nearest(0, 0, HIGHEST)]
        self.assertEqual(tail([start(), gauge(1)], wrong), [[-22]] * 6)
        self.assertEqual(tail([start(), gauge(1)], [nearest(7, 3, 1000000), nearest(0, 0, 0)]), [[0, 16], [0, 62]])

    def test_no_gauge(self):
        self.assertEqual(tail([start()], [nearest(7, 3, 1000000), nearest(0, 0, 0)]), [[-33], [-33]])

    def test_wrong_ahead_of_no_gauge(self):
        self.assertEqual(tail([start()], [nearest(8), nearest(7, 4), nearest(7, 3, 1000001)]), [[-22]] * 3)

    def test_most_is_not_looked_at(self):
        self.assertEqual(last([start(most=1), gauge(400), nearest(7, 0, 0)]), [0, 74811])


class PullAskedTest(unittest.TestCase):
    def test_the_pull_then_the_gauge(self):
        calls = ready(gauge(400), gauge(2600)) + [string(0, 0, 0), string(0, 3, 1)]
        self.assertEqual(tail(calls, [pull(0, 0), pull(0, 3)]), [[74811, 0], [42982, 1]])

    def test_each_string_of_each_size(self):
        for size in range(8):
            told = [[parts(77, size, s) // 10 ** 13, 0] for s in range(4)]
            self.assertEqual(tail(ready(gauge(77), size=size) + strung(), [pull(0, s) for s in range(4)]), told)

    def test_not_on(self):
        calls = ready(gauge(400)) + [string(0, 2, 0)]
        self.assertEqual(tail(calls, [pull(0, 0), pull(0, 2), unstring(0, 2), pull(0, 2)]),
                         [[-6], [14844, 0], [0], [-6]])

    def test_refusals_in_their_order(self):
        self.assertEqual(tail([start()], [pull(), pull(0, 4)]), [[-2], [-2]])
        asked = [pull(1, 4), pull(HIGHEST, 0), pull(0, 4), pull(0, HIGHEST), pull(0, 3)]
        self.assertEqual(tail(begun(), asked), [[-2], [-2], [-22], [-22], [-6]])

    def test_wherever_it_is(self):
        for gone in (lend(), buy()):
            self.assertEqual(tail(whole(), [gone, pull(), pull(0, 4)])[1:], [[18702, 0], [-22]])


class PullsTest(unittest.TestCase):
    def test_together_then_how_many(self):
        calls = ready(gauge(400), gauge(2600))
        asked = [pulls(), string(0, 3, 1), pulls(), string(0, 0, 0), pulls(), unstring(0, 3), pulls()]
        both = (parts(400, 7, 0) + parts(2600, 7, 3)) // 10 ** 13
        self.assertEqual(tail(calls, asked)[::2], [[0, 0], [42982, 1], [both, 2], [74811, 1]])

    def test_exact_sums_rounded_down_once(self):
        exact = [parts(777, 4, s) for s in range(4)]
        once = sum(exact) // 10 ** 13
        self.assertGreater(once, sum(each // 10 ** 13 for each in exact))
        self.assertEqual(last(ready(gauge(777), size=4) + strung() + [pulls()]), [once, 4])

    def test_instruments_keep_apart(self):
        calls = [start()] + wood(2) + [make(7), make(0)] + varnished(0) + varnished(1) + [gauge(1)]
        calls += strung(1) + [string(0, 0, 0)]
        together = sum(parts(1, 0, s) for s in range(4)) // 10 ** 13
        self.assertEqual(tail(calls, [pulls(0), pulls(1)]), [[187, 1], [together, 4]])

    def test_none_there(self):
        self.assertEqual(tail([start()], [pulls()]), [[-2]])
        self.assertEqual(tail(begun(), [pulls(1), pulls(HIGHEST), pulls(0)]), [[-2], [-2], [0, 0]])

    def test_wherever_it_is(self):
        told = [sum(parts(100, 7, s) for s in range(4)) // 10 ** 13, 4]
        for gone in (lend(), buy()):
            self.assertEqual(tail(whole(), [gone, pulls()])[1:], [told])
        self.assertEqual(tail(whole(), [lend(), give_back(), pulls()])[2:], [told])


class StockTest(unittest.TestCase):
    def test_how_many_then_the_mass(self):
        calls = [start(), gauge(1, 0), gauge(10000, 100), gauge(37, 5)]
        self.assertEqual(tail(calls, [stock(0), stock(1), stock(2)]), [[0, 1], [100, 10000], [5, 37]])

    def test_what_is_put_on_is_gone(self):
        asked = [string(0, 0, 1), stock(1), string(0, 1, 1), stock(1), stock(0), unstring(0, 0), stock(1)]
        rows = tail(ready(gauge(1, 9), gauge(2, 3)), asked)
        self.assertEqual([rows[1], rows[3], rows[4], rows[6]], [[2, 2], [1, 2], [9, 1], [1, 2]])

    def test_what_is_refused_is_there_still(self):
        asked = [string(0, 0, 0), stock(0), string(0, 4, 1), stock(1)]
        calls = ready(gauge(10000, 2), gauge(1, 1), most=1000)
        self.assertEqual(tail(calls, asked), [[-62], [2, 10000], [-22], [1, 1]])

    def test_none_there(self):
        self.assertEqual(tail([start()], [stock()]), [[-2]])
        self.assertEqual(tail([start(), gauge(5, 6)], [stock(1), stock(HIGHEST), stock(0)]), [[-2], [-2], [6, 5]])


if __name__ == "__main__":
    unittest.main()
