"""A call that is refused, or one that only asks, leaves all as it was: what comes behind it answers as without it."""

import itertools
import unittest

from tests.line import HIGHEST, again, aged, all_asked, back, best, buy, coat, days, days_to, fewest, flat, free, gauge
from tests.line import give_back, grow, lend, long_line, look, make, nearest, owes, pitch, plank, pull, pulls, pupil
from tests.line import shop_of, size_of, split, start, stock, string, tell, thin, tune, unstring, view, wholeness, zones
from violinmaker.workshop import answers


def tries():
    """Calls of all sorts, many of which are refused wherever they stand."""
    some = (0, 1, 2, 3, 8, HIGHEST)
    calls = [start(0), start(61), start(1, 1001), start(1, 0, 0), start(weights=[1, 2, 3, 4, 5, 21])]
    calls += [plank(2), plank(0, 10), plank(0, 0, 299), plank(0, 0, 300, 10001), gauge(0), gauge(1, 101)]
    calls += [pupil(299), pupil(801), make(8), make(7), days(0), days(3001), best(2), best(1), aged(HIGHEST)]
    calls += [nearest(8), nearest(0, 4), nearest(0, 0, 1000001), nearest(), free(8), back(), again()]
    calls += [call(HIGHEST) for call in (pulls, wholeness, size_of, owes, look, stock)]
    calls += [call(k, n) for call in (pitch, zones, pull) for k, n in ((0, 0), (0, 2), (1, 4), (3, 0))]
    calls += [fewest(k, plate, want) for k, plate, want in ((0, 1, 0), (0, 2, 900), (1, 0, 400), (3, 0, 900))]
    calls += [coat(k) for k in some] + [give_back(k) for k in some]
    calls += [grow(p, n) for p, n in itertools.product(some, (0, 501, HIGHEST))]
    calls += [call(k, n) for call in (lend, unstring) for k, n in itertools.product(some, some)]
    calls += [thin(k, 1, n) for k, n in itertools.product(some, some)]
    calls += [tune(k, n, 300) for k, n in itertools.product(some, some)]
    calls += [string(k, s, g) for k, s, g in itertools.product((0, 1, 2, 3), (0, 1, 3, 4), (0, 1, 2, 3))]
    calls += [buy(k, p, price) for k, p, price in itertools.product((0, 1, 2, 3), (0, 1, 3), (0, 1, 1000001))]
    return calls


class RefusedTest(unittest.TestCase):
    def refused_behind(self, calls):
        """Tries that are refused behind some calls, each of them behind all the others too."""
        refused = tries()
        tried = None
        while tried != refused:
            tried = refused
            rows = split(answers(flat(calls + tried)))[len(calls):]
            refused = [call for call, row in zip(tried, rows) if row[0] < 0]
        self.assertTrue(all(len(row) == 1 for row in rows))
        return refused

    def test_all_stays_as_it_was(self):
        line = long_line()
        plain = tell(line)
        seen = {}
        for at in range(1, len(line) + 1):
            refused = self.refused_behind(line[:at])
            rows = tell(line[:at] + refused + line[at:])
            self.assertEqual(rows[:at] + rows[at + len(refused):], plain, at)
            seen.update({call[0]: True for call in refused})
        # vi_small, vi_sums and vi_state are never refused.
        self.assertEqual(sorted(seen), [number for number in range(34) if number not in (25, 30, 33)])

    def test_all_that_can_be_asked_stays_as_it_was(self):
        line = long_line()
        for at in range(1, len(line) + 1):
            refused = self.refused_behind(line[:at])
            self.assertEqual(view(line[:at] + refused), view(line[:at]), at)

    def test_the_line_comes_by_each_call(self):
        line = long_line()
        done = {call[0]: True for call, row in zip(line, tell(line)) if row[0] >= 0}
        self.assertEqual(sorted(done), list(range(34)))

    def test_too_many_and_too_late(self):
        full = [start()] + [plank()] * 16 + [gauge()] * 8 + [pupil()] * 10 + days_to(20000)
        refused = [plank(), gauge(), pupil(), days(1)]
        behind = [aged(15), aged(16), grow(9, 1), grow(10, 1), coat(), days(1), best()]
        rows = tell(full + refused + behind)
        self.assertEqual(rows[len(full):len(full) + 4], [[-28], [-28], [-28], [-75]])
        self.assertEqual(rows[len(full) + 4:], tell(full + behind)[len(full):])
        self.assertEqual(view(full + refused), view(full))


class AskedTest(unittest.TestCase):
    def test_all_stays_as_it_was(self):
        line = long_line()
        plain = tell(line)
        asked = all_asked()
        for at in range(1, len(line) + 1):
            rows = tell(line[:at] + asked + asked + line[at:])
            self.assertEqual(rows[:at] + rows[at + 2 * len(asked):], plain, at)
            self.assertEqual(rows[at:at + len(asked)], rows[at + len(asked):at + 2 * len(asked)], at)

    def test_each_call_that_asks_is_among_them(self):
        self.assertEqual(sorted({call[0]: True for call in all_asked()}), list(range(15, 31)) + [33])

    def test_a_view_tells_each_change(self):
        line = long_line()
        seen = view(line[:1])
        for at, row in enumerate(tell(line)):
            before, seen = seen, view(line[:at + 1])
            if 1 <= line[at][0] <= 14 and row[0] >= 0:
                self.assertNotEqual(shop_of(before), shop_of(seen), line[at])


if __name__ == "__main__":
    unittest.main()
