"""What holds, whatever is called: sought out anew, by another way, on many lines."""

import itertools
import random
import unittest

from tests.line import aged, begun, best, buy, coat, days, gauge, give_back, grow, lend, make, plank, pupil
from tests.line import start, string, tail, tell, thin, tune, unstring

LENGTHS = (190, 215, 240, 260, 280, 305, 320, 328)
HERTZ = (65925, 44000, 29366, 19600)
ARMS = (0, 380, 420, 450, 480, 520, 560, 590)


def random_planks(chance, count):
    return [plank(chance.randrange(2), chance.randrange(3), chance.randrange(400, 430), chance.choice((1800, 1825)))
            for _ in range(count)]


def random_call(chance):
    k = chance.randrange(4)
    p = chance.randrange(3)
    calls = (coat(k), coat(k), coat(k), days(1), days(chance.randrange(1, 4)), make(chance.randrange(8)),
             string(k, chance.randrange(5), chance.randrange(4)), string(k, chance.randrange(4), chance.randrange(3)),
             string(k, chance.randrange(4), chance.randrange(3)), string(k, chance.randrange(4), chance.randrange(3)),
             unstring(k, chance.randrange(5)), lend(k, p), lend(p, p), lend(p, p), give_back(k),
             buy(k, p, 500 * chance.randrange(2)), grow(p, chance.randrange(3)),
             thin(k, chance.randrange(2), chance.randrange(6)))
    return chance.choice(calls)


class BestPairHolds(unittest.TestCase):
    def test_no_pair_that_matches_differs_less(self):
        chance = random.Random(1)
        for _ in range(200):
            planks = random_planks(chance, chance.randrange(17))
            for kind, answer in enumerate(tail([start()] + planks, [best(0), best(1)])):
                usable = [i for i, told in enumerate(planks) if told[1] == kind and told[4] == 1825]
                pairs = [(abs(planks[i][3] - planks[j][3]), i, j) for i, j in itertools.combinations(usable, 2)
                         if planks[i][2] == planks[j][2]]
                self.assertEqual(answer, list(min(pairs)) if pairs else [-33])

    def test_no_plank_is_in_two_instruments(self):
        chance = random.Random(2)
        for _ in range(200):
            rows = tail([start()] + random_planks(chance, 16) + [make()], [make(), days(25), make(), make()])
            used = [i for row in rows if len(row) == 5 for i in row[1:]]
            self.assertEqual(len(used), len(set(used)))


class FewestScrapesHold(unittest.TestCase):
    def test_no_other_way_takes_fewer(self):
        chance = random.Random(3)
        for _ in range(150):
            weights = [chance.randrange(1, 21) for _ in range(6)]
            highest = 50 * sum(weights)
            want = chance.randrange(20 * sum(weights), highest + 5)
            row = tail(begun(weights=weights), [tune(0, 0, want)])[0]
            self.assertEqual(row, [self.fewest(weights, highest - want)], (weights, want))

    def fewest(self, weights, drop):
        """The fewest scrapes that lower a pitch by so much: what n of them lower it by at most, for each n."""
        steps = sorted(weights * 30, reverse=True)
        return next(n for n in range(181) if sum(steps[:n]) >= drop)

    def test_among_all_ways(self):
        # With 3 tenths to go at each of six zones all ways can be gone through.
        weights = [2, 7, 3, 7, 11, 5]
        thinned = [thin(0, 1, zone) for zone in range(6) for _ in range(27)]
        highest = 23 * sum(weights)
        ways = [(sum(way), sum(n * weight for n, weight in zip(way, weights)))
                for way in itertools.product(range(4), repeat=6)]
        for want in range(20 * sum(weights), highest + 2):
            least = min(count for count, drop in ways if highest - drop <= want)
            self.assertEqual(tail(begun(weights=weights) + thinned, [tune(0, 1, want)]), [[least]])


class Follower:
    """Follows a line by what it answers, and knows of each instrument what must hold."""

    def __init__(self, masses, arms):
        self.masses = masses
        self.arms = list(arms)
        self.day = 0
        self.sizes = []
        self.coats = []
        self.strings = []

    def follow(self, call, row):
        number = call[0]
        if number == 4:
            self.sizes.append(call[1])
            self.coats.append([])
            self.strings.append({})
        if number == 7:
            self.coats[call[1]].append(self.day)
        if number == 8:
            self.strings[call[1]][call[2]] = call[3]
        if number == 9:
            self.strings[call[1]].pop(call[2])
        if number == 10:
            self.day = row[0]
        if number == 11:
            self.arms[call[1]] += call[2]

    def pulls(self, k):
        return sum(4 * self.masses[g] * LENGTHS[self.sizes[k]] ** 2 * HERTZ[s] ** 2
                   for s, g in self.strings[k].items())

    def is_whole(self, k, drying):
        return len(self.coats[k]) == 4 and self.coats[k][-1] + drying <= self.day and len(self.strings[k]) == 4


class LinesHold(unittest.TestCase):
    def test_on_many_lines(self):
        chance = random.Random(4)
        lent = 0
        for _ in range(120):
            lent += self.hold_on(chance)
        self.assertGreater(lent, 50)

    def hold_on(self, chance):
        """Goes through one line; answers how often something was lent on it."""
        lent = 0
        most = chance.randrange(40000, 150000)
        masses = [chance.randrange(50, 350) for _ in range(3)]
        arms = [chance.randrange(300, 700) for _ in range(3)]
        calls = [start(2, 5, most)] + [plank(n % 2) for n in range(12)]
        calls += [gauge(mass, 60) for mass in masses] + [pupil(arm) for arm in arms]
        calls += [make(self.size(arm)) for arm in arms]
        calls += [random_call(chance) for _ in range(400)]
        follower = Follower(masses, arms)
        for call, row in zip(calls, tell(calls)):
            if row[0] < 0:
                continue
            follower.follow(call, row)
            if call[0] == 5:
                self.assertEqual(follower.coats[call[1]], [])
            if call[0] == 7:
                days_of_coats = follower.coats[call[1]]
                self.assertLessEqual(len(days_of_coats), 4)
                self.assertTrue(all(b - a >= 2 for a, b in zip(days_of_coats, days_of_coats[1:])))
            if call[0] == 8:
                self.assertLessEqual(follower.pulls(call[1]), most * 10 ** 13)
            if call[0] == 11:
                self.assertEqual(row, [self.size(follower.arms[call[1]])])
            if call[0] == 12:
                lent += 1
                self.assertTrue(follower.is_whole(call[1], 2))
                self.assertEqual(follower.sizes[call[1]], self.size(follower.arms[call[2]]))
        return lent

    def size(self, arm):
        return sum(1 for least in ARMS if least <= arm) - 1


class AgedHolds(unittest.TestCase):
    def test_as_it_was_told(self):
        chance = random.Random(5)
        planks = random_planks(chance, 16)
        rows = tail([start()] + planks, [aged(i) for i in range(16)])
        self.assertEqual(rows, [[1825 - told[4], told[1], told[2], told[3], 0] for told in planks])


if __name__ == "__main__":
    unittest.main()
