"""Changes that are taken back, and done again."""

import unittest

from tests.line import again, all_asked, back, begun, buy, coat, days, gauge, give_back, grow, lend, long_line, make
from tests.line import plank, pupil, shop_of, start, state, string, strung, tail, tell, thin, tune, unstring, varnished
from tests.line import view, whole, wood

CHANGES = list(range(1, 15))


def each_change():
    """Changes of each sort, each with the calls ahead of it."""
    two = [start(rent=7)] + wood(2) + [make(7), make(7), gauge(1, 50), gauge(2, 50)] + [coat(0), coat(1), days(1)] * 4
    two += strung(0) + strung(1, 1) + [pupil(600), pupil(600)]
    lent = two + [lend(1, 1), days(5)]
    counting = lent + [give_back(1)]
    return [
        ([start()], plank(1, 9, 777, 4)),
        (wood_and_more(), plank()),
        ([start()], gauge(77, 5)),
        (two, gauge(1, 0)),
        ([start()], pupil(444)),
        (lent, pupil(300)),
        ([start()] + wood(1), make(3)),
        (two + wood(1), make(0)),
        (begun(), thin(0, 1, 3)),
        (begun() + [thin(0, 1, 3)] * 29, thin(0, 1, 3)),
        (begun(), tune(0, 0, 1000)),
        (begun() + [thin(0, 1, 2)], tune(0, 1, 420)),
        (begun(), coat(0)),
        (begun(days=9) + [coat(0), days(10), coat(0), days(12), coat(0), days(9)], coat(0)),
        (begun() + varnished() + [gauge(5, 1)], string(0, 2, 0)),
        (two + [unstring(0, 3)], string(0, 3, 1)),
        (two, unstring(1, 2)),
        (two + [unstring(1, 0), unstring(1, 1)], unstring(1, 3)),
        ([start()], days(3000)),
        (lent, days(12)),
        (begun(days=5) + [coat(0), days(3)], days(2)),
        ([start(), pupil(300)], grow(0, 500)),
        (lent, grow(1, 3)),
        (two, lend(0, 1)),
        (counting, lend(1, 0)),
        (lent, give_back(1)),
        (two + [lend(0, 0)], give_back(0)),
        (two, buy(0, 1, 500)),
        (counting, buy(0, 1, 10)),
        (counting, buy(1, 1, 300)),
    ]


def wood_and_more():
    return [start()] + wood(3) + [make(), make(), make(), plank()]


def changes_of(calls):
    """The start and the changes that made a shop what it is, of a line in which nothing is taken back."""
    return [call for call, row in zip(calls, tell(calls)) if call[0] <= 14 and row[0] >= 0]


class EachChangeTest(unittest.TestCase):
    def test_each_of_the_fourteen_is_here(self):
        self.assertEqual(sorted({change[0]: True for calls, change in each_change()}), CHANGES)
        for calls, change in each_change():
            self.assertTrue(all(row[0] >= 0 for row in tell(calls + [change])), change)

    def test_taken_back_and_done_again(self):
        for calls, change in each_change():
            before, behind = view(calls), view(calls + [change])
            self.assertNotEqual(shop_of(before), shop_of(behind), change)
            self.assertEqual(shop_of(view(calls + [change, back()])), shop_of(before), change)
            self.assertEqual(view(calls + [change, back(), again()]), behind, change)
            self.assertEqual(shop_of(view(calls + [change, back(), again(), back()])), shop_of(before), change)
            self.assertEqual(view(calls + [change] + [back(), again()] * 5), behind, change)

    def test_how_many_can_be(self):
        for calls, change in each_change():
            count = min(30, len(changes_of(calls)) - 1)
            asked = [state(), change, state(), back(), state(), again(), state()]
            rows = tail(calls, asked)
            after = min(30, count + 1)
            self.assertEqual([row[-2:] for row in rows[::2]], [[count, 0], [after, 0], [after - 1, 1], [after, 0]])
            self.assertEqual([rows[3], rows[5]], [[after - 1], [0]])

    def test_it_answers_as_it_did_if_it_is_made_once_more(self):
        for calls, change in each_change():
            rows = tail(calls, [change, back(), change])
            self.assertEqual(rows[2], rows[0], change)
            self.assertEqual(shop_of(view(calls + [change, back(), change])), shop_of(view(calls + [change])), change)

    def test_one_by_one_to_the_first(self):
        """Each of the last 30 changes of each line, taken back one by one, and done again one by one."""
        for calls, change in each_change():
            made = changes_of(calls + [change])
            reach = min(30, len(made) - 1)
            for n in range(1, reach + 1):
                self.assertEqual(shop_of(view(made + [back()] * n)), shop_of(view(made[:-n])), (change, n))
            at_last = made + [back()] * reach
            for n in range(reach + 1):
                wanted = made[:len(made) - reach + n]
                self.assertEqual(shop_of(view(at_last + [again()] * n)), shop_of(view(wanted)), (change, n))

    def test_a_tuning_without_scrapes_is_a_change(self):
        rows = tail(begun(), [state(), tune(0, 0, 1050), state(), back(), state(), again(), state()])
        self.assertEqual([row[-2:] for row in rows[::2]], [[5, 0], [6, 0], [5, 1], [6, 0]])

    def test_anywhere_in_a_line(self):
        line = long_line()
        plain = tell(line)
        for at, row in enumerate(plain):
            if 1 <= line[at][0] <= 14 and row[0] >= 0:
                for between in ([back(), again()], [back(), line[at]], [days(1), back()]):
                    rows = tell(line[:at + 1] + between + line[at + 1:])
                    self.alike_but_for_counts(line, rows[:at + 1] + rows[at + 1 + len(between):], plain)

    def alike_but_for_counts(self, line, rows, plain):
        """What was done in between may count among those to be taken back or done again; all else is as it was."""
        for call, row, told in zip(line, rows, plain):
            if call[0] == 33:
                self.assertEqual(row[:-2], told[:-2])
            elif call[0] in (31, 32):
                self.assertGreaterEqual(row[0], 0)
            else:
                self.assertEqual(row, told, call)


class HowManyTest(unittest.TestCase):
    def test_the_last_30(self):
        for made in (0, 1, 2, 28, 29, 30, 31, 32, 45, 60, 61, 100):
            reach = min(30, made)
            calls = [start()] + [days(n % 3 + 1) for n in range(made)]
            after = [sum(n % 3 + 1 for n in range(count)) for count in range(made + 1)]
            self.assertEqual(tail(calls, [state()]), [[after[made], 0, 0, 0, 0, reach, 0]])
            taken = [back()] * reach
            self.assertEqual(tail(calls, taken + [back()]), [[n] for n in range(reach - 1, -1, -1)] + [[-2]])
            self.assertEqual(tail(calls + taken, [state()]), [[after[made - reach], 0, 0, 0, 0, 0, reach]])
            rows = tail(calls + taken + [back()], [again()] * (reach + 1) + [state()])
            self.assertEqual(rows[:-1], [[n] for n in range(reach - 1, -1, -1)] + [[-2]])
            self.assertEqual(rows[-1], [after[made], 0, 0, 0, 0, reach, 0])

    def test_day_by_day(self):
        calls = [start()] + [days(1)] * 40
        asked = [back(), state()] * 31 + [again(), state()] * 31
        rows = tail(calls, asked)
        for n in range(30):
            self.assertEqual(rows[2 * n:2 * n + 2], [[29 - n], [39 - n, 0, 0, 0, 0, 29 - n, n + 1]])
            self.assertEqual(rows[62 + 2 * n:64 + 2 * n], [[29 - n], [11 + n, 0, 0, 0, 0, n + 1, 29 - n]])
        self.assertEqual(rows[60:62], [[-2], [10, 0, 0, 0, 0, 0, 30]])
        self.assertEqual(rows[122:], [[-2], [40, 0, 0, 0, 0, 30, 0]])

    def test_of_all_sorts(self):
        """The last 30 of a line of all sorts: the shop as it was 30 changes ago, and no further back."""
        calls = whole() + [lend(), days(3), give_back(), unstring(0, 2), string(0, 2, 0), grow(0, 5), buy()]
        calls += [gauge(1, 1), plank(), plank(1), thin(), days(4), pupil(), days(7)]
        made = changes_of(calls)
        self.assertGreater(len(made), 31)
        self.assertEqual(shop_of(view(calls + [back()] * 30)), shop_of(view(made[:-30])))
        self.assertEqual(view(calls + [back()] * 31), view(calls + [back()] * 30))
        self.assertEqual(view(calls + [back()] * 31 + [again()] * 30), view(calls))
        self.assertEqual(view(calls + [back()] * 31 + [again()] * 31), view(calls))

    def test_nothing_to_take_back_or_do_again(self):
        self.assertEqual(tail([start()], [back(), again(), state()]), [[-2], [-2], [0] * 7])
        self.assertEqual(tail([start(), plank()], [again(), back(), back(), again(), again()]),
                         [[-2], [0], [-2], [0], [-2]])

    def test_a_refused_taking_back_leaves_those_to_be_done_again(self):
        calls = [start(), days(1), days(2), back(), back()]
        self.assertEqual(tail(calls, [back(), back(), again(), again(), again()]), [[-2], [-2], [1], [0], [-2]])

    def test_a_refused_doing_again_leaves_those_to_be_taken_back(self):
        calls = [start(), days(1), days(2)]
        self.assertEqual(tail(calls, [again(), again(), back(), back(), back()]), [[-2], [-2], [1], [0], [-2]])


class AnotherChangeTest(unittest.TestCase):
    def test_each_sort_ends_those_to_be_done_again(self):
        for calls, change in each_change():
            rows = tail(calls + [days(1), days(1), back(), back()], [state(), change, state(), again()])
            self.assertEqual(rows[0][-1], 2, change)
            self.assertEqual(rows[2][-1], 0, change)
            self.assertEqual(rows[3], [-2], change)

    def test_it_stands_behind_what_was_not_taken_back(self):
        calls = [start(), days(1), days(10), days(100), back(), back(), days(1000)]
        self.assertEqual(tail(calls, [state(), again(), back(), state(), again(), back(), back(), back(), state()]),
                         [[1001, 0, 0, 0, 0, 2, 0], [-2], [1], [1, 0, 0, 0, 0, 1, 1], [0], [1], [0], [-2],
                          [0, 0, 0, 0, 0, 0, 2]])

    def test_when_some_are_done_again_first(self):
        calls = [start(), days(1), days(10), days(100), back(), back(), back(), again(), again(), days(1000)]
        self.assertEqual(tail(calls, [state(), again(), back(), back(), back(), back()]),
                         [[1011, 0, 0, 0, 0, 3, 0], [-2], [2], [1], [0], [-2]])

    def test_at_the_full_number(self):
        calls = [start()] + [days(1)] * 40
        self.assertEqual(tail(calls + [back()] * 10 + [pupil()], [state()]), [[30, 0, 0, 0, 1, 21, 0]])
        self.assertEqual(tail(calls + [back()] * 30 + [pupil()], [state(), back(), state(), back()]),
                         [[10, 0, 0, 0, 1, 1, 0], [0], [10, 0, 0, 0, 0, 0, 1], [-2]])
        self.assertEqual(tail(calls + [back(), pupil()], [state(), back(), state()]),
                         [[39, 0, 0, 0, 1, 30, 0], [29], [39, 0, 0, 0, 0, 29, 1]])
        pushed = calls + [back()] * 10 + [again()] * 10 + [pupil()] + [back()] * 30
        self.assertEqual(tail(pushed, [state(), back()]), [[11, 0, 0, 0, 0, 0, 30], [-2]])

    def test_refused_calls_in_between(self):
        for calls, change in each_change():
            plain = calls + [change, days(1), back(), back()]
            refused = [plank(2), gauge(0), pupil(1), make(8), thin(9), tune(9), coat(9), string(9), unstring(9),
                       days(0), grow(0, 0), lend(9), give_back(9), buy(9), start(0), start(weights=[0] * 6)]
            rows = tail(plain, refused)
            self.assertTrue(all(row[0] < 0 for row in rows), change)
            self.assertEqual(view(plain + refused), view(plain), change)
            self.assertEqual(view(plain + refused + [again()]), view(plain + [again()]), change)
            both = plain + refused + [again()] + refused + [again()]
            self.assertEqual(view(both), view(plain + [again()] * 2), change)
            self.assertEqual(view(plain + [again()] + refused + [back()]), view(plain), change)

    def test_calls_that_only_ask_in_between(self):
        asked = all_asked()
        for calls, change in each_change():
            plain = calls + [change] + asked + [back()] + asked
            self.assertEqual(view(plain), view(calls + [change, back()]), change)
            self.assertEqual(view(plain + [again()]), view(calls + [change]), change)


class StartInBetweenTest(unittest.TestCase):
    def test_a_refused_one_leaves_all(self):
        calls = begun() + [days(4), pupil(), back()]
        wrong = [start(61), start(1, 1001), start(most=0), start(weights=[1, 1, 1, 1, 1, 0])]
        self.assertEqual(view(calls + wrong), view(calls))
        self.assertEqual(view(calls + wrong + [again()]), view(calls + [again()]))
        self.assertEqual(view(calls + [back()] + wrong + [back()]), view(calls + [back(), back()]))

    def test_one_that_is_not_leaves_no_changes(self):
        for before in (begun(), begun() + [back()], whole() + [back()] * 4, [start()]):
            calls = before + [start()]
            self.assertEqual(view(calls), view([start()]))
            self.assertEqual(tail(calls, [back(), again(), state()]), [[-2], [-2], [0] * 7])

    def test_changes_behind_it_alone_are_taken_back(self):
        calls = [start()] + [days(5)] * 40 + [back()] * 3 + [start()] + [days(1)] * 2
        self.assertEqual(tail(calls, [state(), again(), back(), back(), back(), again(), state()]),
                         [[2, 0, 0, 0, 0, 2, 0], [-2], [1], [0], [-2], [1], [1, 0, 0, 0, 0, 1, 1]])

    def test_what_it_told_stays_when_all_is_taken_back(self):
        calls = begun(days=3, weights=[1] * 6) + begun(days=9, rent=5, weights=[2] * 6) + [back()] * 5
        more = wood() + [make()]
        self.assertEqual(tail(calls + more, [thin(), coat()]), [[598], [9]])


class StateTest(unittest.TestCase):
    def test_the_day_then_how_many(self):
        calls = [start()] + wood(2) + [make()] + [gauge()] * 3 + [pupil()] * 2 + [days(7)]
        self.assertEqual(tail(calls, [state()]), [[7, 8, 3, 1, 2, 15, 0]])

    def test_full(self):
        calls = [start()] + wood(3) + [plank()] * 4 + [make()] * 3 + [gauge()] * 8 + [pupil()] * 10
        self.assertEqual(tail(calls, [state()]), [[0, 16, 8, 3, 10, 30, 0]])

    def test_at_first(self):
        self.assertEqual(tail([start()], [state()]), [[0] * 7])

    def test_a_sold_one_counts_still(self):
        rows = tail(whole(), [buy(), state()])
        self.assertEqual(rows[1][:5], [4, 4, 1, 1, 1])


if __name__ == "__main__":
    unittest.main()
