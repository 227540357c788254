"""A call that is refused leaves all as it was: whatever comes behind it answers as without it."""

import itertools
import unittest

from tests.line import HIGHEST, aged, best, buy, coat, days, days_to, gauge, give_back, grow, lend, make
from tests.line import plank, pupil, start, string, tell, thin, tune, unstring
from violinmaker.workshop import answers


def long_line():
    """A line that comes by each call, and in which much could go another way if something had stayed."""
    calls = [start(3, 7, 130000, [1, 2, 3, 4, 5, 6])]
    calls += [plank(n % 2, n // 4, 400 + 7 * n * n % 50, 1820 + n) for n in range(12)]
    calls += [gauge(400, 3), gauge(300, 6), gauge(2500, 0), pupil(580), pupil(600), pupil(300), best(0), best(1)]
    calls += [days(5), make(7), best(0), make(6), days(3), make(0)]
    calls += [thin(0, 0, 5), tune(0, 1, 900), thin(1, 1, 1), tune(1, 0, 1000), thin(0, 1, 5), thin(0, 0, 5)]
    calls += [coat(0), days(3), coat(0), coat(1), days(3), coat(0), coat(1), days(3), coat(0), coat(1), days(3)]
    calls += [coat(1), string(0, 0, 0), days(3), string(0, 1, 1), string(0, 2, 1), string(0, 3, 1)]
    calls += [string(1, 0, 1), string(1, 1, 1), string(1, 2, 0), string(1, 3, 0), lend(0, 1), lend(1, 0)]
    calls += [days(11), give_back(0), days(4), grow(0, 15), give_back(1), lend(0, 0), days(2), buy(1, 1, 500)]
    calls += [give_back(0), unstring(0, 3), buy(0, 0, 300), string(0, 3, 1), buy(0, 0, 300), grow(2, 80)]
    calls += [plank(), best(0), aged(12), days(100), aged(2), gauge(1, 1), pupil(400)]
    return calls


def flat(calls):
    return [number for call in calls for number in call]


def tries():
    """Calls of all sorts, many of which are refused wherever they stand."""
    some = (0, 1, 2, 3, 8, HIGHEST)
    calls = [start(0), start(61), start(1, 1001), start(1, 0, 0), start(weights=[1, 2, 3, 4, 5, 21])]
    calls += [plank(2), plank(0, 10), plank(0, 0, 299), plank(0, 0, 300, 10001), gauge(0), gauge(1, 101)]
    calls += [pupil(299), pupil(801), make(8), make(7), days(0), days(3001), best(2), best(1), aged(HIGHEST)]
    calls += [coat(k) for k in some] + [give_back(k) for k in some]
    calls += [grow(p, n) for p, n in itertools.product(some, (0, 501, HIGHEST))]
    calls += [call(k, n) for call in (lend, unstring) for k, n in itertools.product(some, some)]
    calls += [thin(k, 1, n) for k, n in itertools.product(some, some)]
    calls += [tune(k, n, 300) for k, n in itertools.product(some, some)]
    calls += [string(k, s, g) for k, s, g in itertools.product((0, 1, 2, 3), (0, 1, 3, 4), (0, 1, 2, 3))]
    calls += [buy(k, p, price) for k, p, price in itertools.product((0, 1, 2, 3), (0, 1, 3), (0, 1, 1000001))]
    return calls


class RefusedTest(unittest.TestCase):
    def refused_behind(self, calls):
        """Those of the tries that are refused behind some calls."""
        refused = []
        before = flat(calls)
        told = len(answers(before))
        for call in tries():
            row = answers(before + call)[told + 1:]
            if row[0] < 0:
                self.assertEqual(len(row), 1, call)
                refused.append(call)
        return refused

    def test_all_stays_as_it_was(self):
        line = long_line()
        plain = tell(line)
        seen = {}
        for at in range(1, len(line) + 1):
            refused = self.refused_behind(line[:at])
            rows = tell(line[:at] + refused + line[at:])
            self.assertEqual(rows[:at] + rows[at + len(refused):], plain, at)
            seen.update({call[0]: True for call in refused})
        self.assertEqual(sorted(seen), list(range(17)))

    def test_the_line_comes_by_each_call(self):
        line = long_line()
        done = {call[0]: True for call, row in zip(line, tell(line)) if row[0] >= 0}
        self.assertEqual(sorted(done), list(range(17)))

    def test_too_many_and_too_late(self):
        full = [start()] + [plank()] * 16 + [gauge()] * 8 + [pupil()] * 10 + days_to(20000)
        refused = [plank(), gauge(), pupil(), days(1)]
        behind = [aged(15), aged(16), grow(9, 1), grow(10, 1), coat(), days(1), best()]
        rows = tell(full + refused + behind)
        self.assertEqual(rows[len(full):len(full) + 4], [[-28], [-28], [-28], [-75]])
        self.assertEqual(rows[len(full) + 4:], tell(full + behind)[len(full):])


if __name__ == "__main__":
    unittest.main()
