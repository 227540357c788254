"""Each row of what holds, on long lines of calls of every sort, by what the program itself tells behind each call."""

import itertools
import random
import unittest

from tests.line import aged, all_asked, best, fewest, flat, look, nearest, pitch, pull, pulls, size_of, split, state
from tests.line import stock, tell, wholeness, zones
from tests.test_model import line_of
from violinmaker.workshop import answers

LENGTHS = (190, 215, 240, 260, 280, 305, 320, 328)
HERTZ = (65925, 44000, 29366, 19600)
ARMS = (0, 380, 420, 450, 480, 520, 560, 590, 801)


class Seen:
    """All that the program tells behind some calls."""

    def __init__(self, calls, start, chance):
        self.start = start
        self.weights = start[5:]
        lowest = 20 * sum(self.weights)
        self.scrapes = [fewest(k, side, chance.randrange(lowest - 5, 5 * lowest // 2 + 5))
                        for k in range(3) for side in range(2)]
        self.wanted = [nearest(chance.randrange(8), chance.randrange(4), chance.randrange(90000)) for _ in range(4)]
        asked = all_asked()
        rows = split(answers(flat(calls + asked + self.scrapes + self.wanted)))[len(calls):]
        self.told = {tuple(call): row for call, row in zip(asked + self.scrapes + self.wanted, rows)}
        self.shop = rows[:len(asked) - 1] + [rows[len(asked) - 1][:5]]
        self.counts = rows[len(asked) - 1][5:]

    def of(self, call):
        return self.told[tuple(call)]

    def all_of(self, call, count):
        return [self.of(call(n)) for n in range(count)]

    def instruments(self):
        return range(self.of(state())[3])


class RowsHold(unittest.TestCase):
    def test_on_long_lines(self):
        chance = random.Random(11)
        self.met = {}
        for seed in range(2000, 2012):
            self.hold_on(line_of(seed, 400)[0], chance)
        for name in ("pair", "scrapes", "gauge", "pulls", "lent", "coat", "thinned", "back", "again", "two made"):
            self.assertGreater(self.met.get(name, 0), 20, self.met)

    def meet(self, name):
        self.met[name] = self.met.get(name, 0) + 1

    def hold_on(self, calls, chance):
        past, future, seen = [], [], None
        for n, row in enumerate(tell(calls)):
            call = calls[n]
            start = call if call[0] == 0 and row == [0] else seen.start
            before, seen = seen, Seen(calls[:n + 1], start, chance)
            self.wood_holds(seen)
            self.scrapes_hold(seen)
            self.strings_hold(seen)
            self.sizes_hold(seen)
            if row[0] < 0:
                self.assertEqual((seen.shop, seen.counts), (before.shop, before.counts), call)
            elif call[0] == 0:
                past, future = [], []
            elif call[0] <= 14:
                self.change_holds(call, row, before, seen)
                past, future = (past + [before.shop])[-30:], []
            elif call[0] == 31:
                self.meet("back")
                future.append(before.shop)
                self.assertEqual(seen.shop, past.pop())
            elif call[0] == 32:
                self.meet("again")
                past.append(before.shop)
                self.assertEqual(seen.shop, future.pop())
            else:
                self.assertEqual(seen.shop, before.shop, call)
            self.assertEqual(seen.counts, [len(past), len(future)])

    def wood_holds(self, seen):
        planks = seen.all_of(aged, seen.of(state())[1])
        for kind in (0, 1):
            pairs = [(abs(one[3] - other[3]), i, j)
                     for (i, one), (j, other) in itertools.combinations(enumerate(planks), 2)
                     if one[:3] == other[:3] == [0, kind, one[2]] and one[4] == other[4] == 0]
            self.assertEqual(seen.of(best(kind)), list(min(pairs)) if pairs else [-33])
            if len(pairs) > 1:
                self.meet("pair")
        used = [i for k in seen.instruments() for i in seen.of(look(k))[1:5]]
        self.assertEqual(sorted(used), [i for i, plank in enumerate(planks) if plank[4] == 1])
        if len(used) > 4:
            self.meet("two made")

    def scrapes_hold(self, seen):
        for call in seen.scrapes:
            number, k, side, want = call
            if k not in seen.instruments():
                continue
            thick = seen.of(zones(k, side))[1:]
            pitched = sum(zone * weight for zone, weight in zip(thick, seen.weights))
            self.assertEqual(seen.of(pitch(k, side)), [pitched])
            steps = [weight for zone, weight in zip(thick, seen.weights) for _ in range(zone - 20)]
            steps.sort(reverse=True)
            if pitched - sum(steps) > want:
                self.assertEqual(seen.of(call), [-33])
                continue
            self.meet("scrapes")
            count, then = seen.of(call)
            self.assertLessEqual(then, want)
            self.assertGreaterEqual(sum(steps[:count]), pitched - want)
            if count:
                self.assertLess(sum(steps[:count - 1]), pitched - want)

    def strings_hold(self, seen):
        masses = [row[1] for row in seen.all_of(stock, seen.of(state())[2])]
        for call in seen.wanted:
            number, size, s, want = call
            apart = [abs(4 * mass * (LENGTHS[size] * HERTZ[s]) ** 2 - want * 10 ** 13) for mass in masses]
            self.assertEqual(seen.of(call)[0], apart.index(min(apart)) if apart else -33)
            if len(apart) > 1:
                self.meet("gauge")
        for k in seen.instruments():
            exact, on = 0, 0
            for s in range(4):
                row = seen.of(pull(k, s))
                if row[0] >= 0:
                    on += 1
                    exact += 4 * masses[row[1]] * (LENGTHS[seen.of(look(k))[0]] * HERTZ[s]) ** 2
            self.assertLessEqual(exact, seen.start[3] * 10 ** 13)
            self.assertEqual(seen.of(pulls(k)), [exact // 10 ** 13, on])
            if on > 1:
                self.meet("pulls")

    def sizes_hold(self, seen):
        for size, arm, lent in seen.all_of(size_of, seen.of(state())[4]):
            self.assertTrue(ARMS[size] <= arm < ARMS[size + 1])

    def change_holds(self, call, row, before, seen):
        number = call[0]
        if number == 12:
            self.meet("lent")
            self.assertEqual(before.of(wholeness(call[1]))[0], 1)
            self.assertEqual(before.of(look(call[1]))[0], before.of(size_of(call[2]))[0])
        if number == 7:
            self.meet("coat")
            self.assertEqual(before.of(wholeness(call[1]))[2], 0)
            self.assertEqual(seen.of(wholeness(call[1]))[1:], [before.of(wholeness(call[1]))[1] + 1, seen.start[1]])
        for k in before.instruments():
            for side in range(2):
                if before.of(zones(k, side)) != seen.of(zones(k, side)):
                    self.meet("thinned")
                    self.assertIn(number, (5, 6))
                    self.assertEqual(before.of(wholeness(k))[1], 0)
        if number == 6:
            self.assertLessEqual(seen.of(pitch(call[1], call[2]))[0], call[3])
            scraped = before.of(zones(call[1], call[2]))[0] - seen.of(zones(call[1], call[2]))[0]
            self.assertEqual(row, [scraped])


if __name__ == "__main__":
    unittest.main()
