"""Long lines of calls of every sort, held against a second telling of the document.

It goes other ways than the program: it keeps the list of changes and makes them all anew when one is taken back, pulls
are fractions, scrapes are counted zone by zone.
"""

import itertools
import random
import unittest
from fractions import Fraction

from tests.line import flat, split, tell
from violinmaker.workshop import answers

LENGTHS = (190, 215, 240, 260, 280, 305, 320, 328)
ARMS = (0, 380, 420, 450, 480, 520, 560, 590)
HERTZ = (65925, 44000, 29366, 19600)
NAMES = """start plank gauge pupil make thin tune coat string unstring days grow lend give_back buy best aged pitch
fewest plate nearest pull pulls whole size small free owes look stock sums back again state""".split()


class Refused(Exception):
    pass


def refuse_if(due, number):
    if due:
        raise Refused(number)


def at(things, n):
    refuse_if(n >= len(things), -2)
    return things[n]


def size_for(arm):
    return max(size for size in range(8) if arm >= ARMS[size])


def pull_of(mass, size, s):
    return Fraction(4 * mass * LENGTHS[size] ** 2 * HERTZ[s] ** 2, 10000000000000)


def bits(numbers):
    return [len(numbers), sum(2 ** n for n in numbers)]


class Model:
    def __init__(self):
        self.told = None

    def call(self, call):
        """What a call answers."""
        try:
            return self.act(NAMES[call[0]], call[1:])
        except Refused as refusal:
            return [refusal.args[0]]

    def act(self, name, row):
        if name == "start":
            return self.start(row)
        if NAMES.index(name) <= 14:
            answer = getattr(self, name)(*row)
            self.done.append((name, row))
            self.reach = min(30, self.reach + 1)
            self.undone = []
            return answer
        return getattr(self, name)(*row)

    def start(self, row):
        days, rent, most = row[:3]
        refuse_if(not 1 <= days <= 60 or rent > 1000 or not 1 <= most <= 1000000, -22)
        refuse_if(any(not 1 <= weight <= 20 for weight in row[4:]), -22)
        self.told = row
        self.done = []
        self.undone = []
        self.reach = 0
        self.renew()
        return [0]

    def renew(self):
        """All as it comes to be by the changes that are done."""
        self.drying, self.rent, self.most = self.told[:3]
        self.weights = self.told[4:]
        self.day = self.paid = self.put_on = 0
        self.planks, self.gauges, self.pupils, self.made = [], [], [], []
        for name, row in self.done:
            getattr(self, name)(*row)

    def back(self):
        refuse_if(self.reach == 0, -2)
        self.undone.append(self.done.pop())
        self.reach -= 1
        self.renew()
        return [self.reach]

    def again(self):
        refuse_if(not self.undone, -2)
        name, row = self.undone.pop()
        getattr(self, name)(*row)
        self.done.append((name, row))
        self.reach += 1
        return [len(self.undone)]

    def state(self):
        return [self.day, len(self.planks), len(self.gauges), len(self.made), len(self.pupils), self.reach,
                len(self.undone)]

    def plank(self, kind, tree, dense, aged):
        refuse_if(kind > 1 or tree > 9 or not 300 <= dense <= 800 or aged > 10000, -22)
        refuse_if(len(self.planks) >= 16, -28)
        self.planks.append({"kind": kind, "tree": tree, "dense": dense, "from": -aged, "used": 0})
        return [len(self.planks) - 1]

    def gauge(self, mass, count):
        refuse_if(not 1 <= mass <= 10000 or count > 100, -22)
        refuse_if(len(self.gauges) >= 8, -28)
        self.gauges.append({"mass": mass, "count": count})
        return [len(self.gauges) - 1]

    def pupil(self, arm):
        refuse_if(not 300 <= arm <= 800, -22)
        refuse_if(len(self.pupils) >= 10, -28)
        self.pupils.append({"arm": arm, "counts": 0})
        return [len(self.pupils) - 1]

    def pair(self, kind):
        """The difference and the two, of the best pair."""
        ready = [i for i, plank in enumerate(self.planks)
                 if plank["kind"] == kind and not plank["used"] and self.day - plank["from"] >= 1825]
        found = [(abs(self.planks[i]["dense"] - self.planks[j]["dense"]), i, j)
                 for i, j in itertools.combinations(ready, 2) if self.planks[i]["tree"] == self.planks[j]["tree"]]
        refuse_if(not found, -33)
        return list(min(found))

    def make(self, size):
        refuse_if(size > 7, -22)
        refuse_if(len(self.made) >= 3, -28)
        four = self.pair(0)[1:] + self.pair(1)[1:]
        for i in four:
            self.planks[i]["used"] = 1
        self.made.append({"size": size, "planks": four, "plates": [[50] * 6, [50] * 6], "coats": 0, "dry": self.day,
                          "strings": {}, "lent": None, "sold": None, "since": None})
        return [len(self.made) - 1] + four

    def here(self, k):
        """An instrument in the shop."""
        one = at(self.made, k)
        refuse_if(one["lent"] is not None or one["sold"] is not None, -71)
        return one

    def pitched(self, zones):
        return sum(self.weights[n] * zones[n] for n in range(6))

    def thin(self, k, plate, zone):
        one = self.here(k)
        refuse_if(plate > 1 or zone > 5, -22)
        refuse_if(one["coats"] > 0, -16)
        refuse_if(one["plates"][plate][zone] == 20, -12)
        one["plates"][plate][zone] -= 1
        return [self.pitched(one["plates"][plate])]

    def scrape(self, zones, want):
        """How many scrapes it takes, and the zones then."""
        zones = list(zones)
        count = 0
        for n in sorted(range(6), key=lambda n: -self.weights[n]):
            above = max(0, self.pitched(zones) - want)
            scrapes = min(zones[n] - 20, -(-above // self.weights[n]))
            zones[n] -= scrapes
            count += scrapes
        refuse_if(self.pitched(zones) > want, -33)
        return count, zones

    def tune(self, k, plate, want):
        one = self.here(k)
        refuse_if(plate > 1, -22)
        refuse_if(one["coats"] > 0, -16)
        count, one["plates"][plate] = self.scrape(one["plates"][plate], want)
        return [count]

    def coat(self, k):
        one = self.here(k)
        refuse_if(one["coats"] == 4, -17)
        refuse_if(self.day < one["dry"], -13)
        one["coats"] += 1
        one["dry"] = self.day + self.drying
        return [one["dry"]]

    def pulled(self, one):
        return sum(pull_of(self.gauges[g]["mass"], one["size"], s) for s, g in one["strings"].items())

    def string(self, k, s, g):
        kind = at(self.gauges, g)
        one = self.here(k)
        refuse_if(s > 3, -22)
        refuse_if(one["coats"] < 4 or self.day < one["dry"], -13)
        refuse_if(s in one["strings"], -17)
        refuse_if(kind["count"] == 0, -12)
        more = pull_of(kind["mass"], one["size"], s)
        refuse_if(self.pulled(one) + more > self.most, -62)
        one["strings"][s] = g
        kind["count"] -= 1
        self.put_on += 1
        return [int(more)]

    def unstring(self, k, s):
        one = self.here(k)
        refuse_if(s > 3, -22)
        refuse_if(s not in one["strings"], -6)
        return [one["strings"].pop(s)]

    def days(self, n):
        refuse_if(not 1 <= n <= 3000, -22)
        refuse_if(self.day + n > 20000, -75)
        self.day += n
        return [self.day]

    def grow(self, p, n):
        pupil = at(self.pupils, p)
        refuse_if(n == 0 or pupil["arm"] + n > 800, -22)
        pupil["arm"] += n
        return [size_for(pupil["arm"])]

    def is_whole(self, one):
        return one["coats"] == 4 and self.day >= one["dry"] and len(one["strings"]) == 4

    def lent(self, p):
        return [k for k, one in enumerate(self.made) if one["lent"] == p]

    def lend(self, k, p):
        pupil = at(self.pupils, p)
        one = self.here(k)
        refuse_if(self.lent(p), -17)
        refuse_if(not self.is_whole(one), -13)
        refuse_if(one["size"] != size_for(pupil["arm"]), -16)
        one["lent"] = p
        one["since"] = self.day
        return [0]

    def give_back(self, k):
        one = at(self.made, k)
        refuse_if(one["lent"] is None, -6)
        p, one["lent"] = one["lent"], None
        rent = (self.day - one["since"]) * self.rent
        self.paid += rent
        self.pupils[p]["counts"] += rent // 2
        return [rent, p]

    def buy(self, k, p, price):
        pupil = at(self.pupils, p)
        one = self.here(k)
        refuse_if(not 1 <= price <= 1000000, -22)
        refuse_if(not self.is_whole(one), -13)
        rest = max(0, price - pupil["counts"])
        pupil["counts"] -= price - rest
        self.paid += rest
        one["sold"] = p
        return [rest]

    def best(self, kind):
        refuse_if(kind > 1, -22)
        return self.pair(kind)

    def aged(self, i):
        plank = at(self.planks, i)
        yet = max(0, 1825 - (self.day - plank["from"]))
        return [yet, plank["kind"], plank["tree"], plank["dense"], plank["used"]]

    def of_plate(self, k, plate):
        one = at(self.made, k)
        refuse_if(plate > 1, -22)
        return one["plates"][plate]

    def pitch(self, k, plate):
        return [self.pitched(self.of_plate(k, plate))]

    def fewest(self, k, plate, want):
        count, zones = self.scrape(self.of_plate(k, plate), want)
        return [count, self.pitched(zones)]

    def plate(self, k, plate):
        zones = self.of_plate(k, plate)
        return [sum(zones)] + zones

    def nearest(self, size, s, want):
        refuse_if(size > 7 or s > 3 or want > 1000000, -22)
        refuse_if(not self.gauges, -33)
        pulls = [pull_of(gauge["mass"], size, s) for gauge in self.gauges]
        g = min(range(len(pulls)), key=lambda n: (abs(pulls[n] - want), n))
        return [g, int(pulls[g])]

    def pull(self, k, s):
        one = at(self.made, k)
        refuse_if(s > 3, -22)
        refuse_if(s not in one["strings"], -6)
        g = one["strings"][s]
        return [int(pull_of(self.gauges[g]["mass"], one["size"], s)), g]

    def pulls(self, k):
        one = at(self.made, k)
        return [int(self.pulled(one)), len(one["strings"])]

    def whole(self, k):
        one = at(self.made, k)
        return [int(self.is_whole(one)), one["coats"], max(0, one["dry"] - self.day)]

    def size(self, p):
        pupil = at(self.pupils, p)
        return [size_for(pupil["arm"]), pupil["arm"]] + ([k + 1 for k in self.lent(p)] or [0])

    def small(self):
        return bits([p for p, pupil in enumerate(self.pupils) for k in self.lent(p)
                     if self.made[k]["size"] < size_for(pupil["arm"])])

    def free(self, size):
        refuse_if(size > 7, -22)
        return bits([k for k, one in enumerate(self.made) if one["size"] == size and self.is_whole(one)
                     and one["lent"] is None and one["sold"] is None])

    def owes(self, p):
        pupil = at(self.pupils, p)
        return [sum((self.day - self.made[k]["since"]) * self.rent for k in self.lent(p)), pupil["counts"]]

    def look(self, k):
        one = at(self.made, k)
        where = 0
        if one["lent"] is not None:
            where = one["lent"] + 1
        if one["sold"] is not None:
            where = one["sold"] + 101
        return [one["size"]] + one["planks"] + [where]

    def stock(self, g):
        gauge = at(self.gauges, g)
        return [gauge["count"], gauge["mass"]]

    def sums(self):
        return [self.paid, sum(plank["used"] for plank in self.planks), self.put_on,
                sum(gauge["count"] for gauge in self.gauges)]


class Chance:
    """Makes calls by chance: mostly such as could be done, now and then one at an edge or beyond it."""

    def __init__(self, seed):
        self.random = random.Random(seed)

    def one(self, *some):
        return self.random.choice(some)

    def upto(self, most):
        """0 to most, and now and then one more, or far more."""
        if self.random.random() < 0.04:
            return self.one(most + 1, most + 2, 4294967295)
        return self.random.randint(0, most)

    def around(self, least, most):
        if self.random.random() < 0.06:
            return self.one(least - 1, least, most, most + 1)
        return self.random.randint(least, most)

    def start(self, wrong=False):
        # The greater most is, the rarer the refusal for too much pull.
        weights = [self.random.randint(1, 20) for _ in range(6)]
        row = [self.random.randint(1, 4), self.one(0, 1, 7, 10, 1000), self.one(60000, 120000, 200000, 1000000)]
        if wrong:
            row[self.random.randrange(3)] = self.one(1000001, 4294967295)
        return [0] + row + [6] + weights

    def row_of(self, name):
        k = self.upto(2)
        p = self.upto(4)
        rows = {
            "plank": lambda: [self.upto(1), self.upto(1), self.around(300, 800), self.one(0, 1800, 1825, 10000, 10001)],
            "gauge": lambda: [self.around(1, 400), self.around(1, 100)],
            "pupil": lambda: [self.around(300, 620)],
            "make": lambda: [self.upto(7)],
            "thin": lambda: [k, self.upto(1), self.upto(5)],
            "tune": lambda: [k, self.upto(1), self.random.randint(100, 6000)],
            "coat": lambda: [k],
            "string": lambda: [k, self.upto(3), self.upto(3)],
            "unstring": lambda: [k, self.upto(3)],
            "days": lambda: [self.one(1, 1, 2, 3, 5, 40, 3000 if p == 0 else 1, 0)],
            "grow": lambda: [p, self.one(0, 1, 2, 10, 40)],
            "lend": lambda: [k, p],
            "give_back": lambda: [k],
            "buy": lambda: [k, p, self.one(0, 1, 30, 500, 1000000, 1000001)],
            "best": lambda: [self.upto(1)],
            "aged": lambda: [self.upto(15)],
            "pitch": lambda: [k, self.upto(1)],
            "fewest": lambda: [k, self.upto(1), self.random.randint(100, 6000)],
            "plate": lambda: [k, self.upto(1)],
            "nearest": lambda: [self.upto(7), self.upto(3), self.upto(80000)],
            "pull": lambda: [k, self.upto(3)],
            "pulls": lambda: [k],
            "whole": lambda: [k],
            "size": lambda: [p],
            "free": lambda: [self.upto(7)],
            "owes": lambda: [p],
            "look": lambda: [k],
            "stock": lambda: [self.upto(7)],
        }
        return rows[name]() if name in rows else []

    def stocked(self):
        """Calls that bring in enough for some instruments."""
        calls = [[1, n % 2, self.random.randrange(2), self.around(300, 800), self.one(1800, 1825, 1900)]
                 for n in range(12)]
        calls += [[2, self.around(1, 400), self.around(20, 100)] for _ in range(3)]
        calls += [[3, self.around(300, 620)] for _ in range(4)]
        self.random.shuffle(calls)
        return calls + ([[10, 3000]] * 6 + [[10, 1980]] if self.random.random() < 0.2 else [])

    def fitting(self, model):
        """A call that brings the shop on, if there is one: so that instruments become whole and are lent."""
        calls = [[10, 1]]
        for k, one in enumerate(model.made):
            if one["lent"] is not None:
                calls += [[13, k], [10, 3], [11, one["lent"], 20]]
            elif one["sold"] is None and model.is_whole(one):
                for p, pupil in enumerate(model.pupils):
                    if size_for(pupil["arm"]) == one["size"]:
                        calls += [[12, k, p]] * 8 + [[14, k, p, 30]]
            elif one["sold"] is None and one["coats"] < 4:
                calls += [[7, k], [7, k], [10, model.drying]]
                if one["coats"] == 0:
                    zones = one["plates"][0]
                    calls += [[5, k, 0, n] for n in range(6) if zones[n] > 20]
                    calls += [[6, k, 0, model.pitched(zones) - self.random.randint(0, 80)]]
                    calls += [[6, k, 1, 20 * sum(model.weights) + self.random.randint(0, 300)]]
            elif one["sold"] is None:
                calls += [[8, k, s, self.upto(3)] for s in range(4) if s not in one["strings"]] * 2
        if len(model.made) < 3 and model.pupils:
            could = all(model.call([15, kind])[0] >= 0 for kind in (0, 1))
            size = size_for(self.one(*model.pupils)["arm"])
            calls += [[4, size]] * 3 if could else [[1, 0, 0, 500, 1825], [1, 1, 0, 510, 1825]]
        return self.one(*calls)

    def calls(self, model):
        """One call, or some that belong together."""
        chance = self.random.random()
        if chance < 0.02:
            many = self.one(2, 3, 5, 29, 30, 31, 40)
            return [[31]] * many + [[32]] * self.one(many, many, many, many + 1, many - 1, many // 2)
        if chance < 0.03 or all(one["sold"] is not None for one in model.made) and chance < 0.1:
            if self.random.random() < 0.8:
                return [self.start(wrong=True)]
            return [self.start()] + (self.stocked() if self.random.random() < 0.8 else [])
        if chance < 0.55:
            return [self.fitting(model)]
        name = self.one(*NAMES[1:])
        if name == "buy" and self.random.random() < 0.7:
            name = "string"
        return [[NAMES.index(name)] + self.row_of(name)]


def line_of(seed, length):
    """A line by chance, and what the model answers to it, call by call."""
    chance = Chance(seed)
    model = Model()
    calls = [chance.start()] + chance.stocked()
    rows = [model.call(call) for call in calls]
    while len(calls) < length:
        for call in chance.calls(model):
            calls.append(call)
            rows.append(model.call(call))
    return calls[:length], rows[:length]


class ModelTest(unittest.TestCase):
    def test_lines_of_every_length(self):
        for seed in range(150):
            calls, rows = line_of(seed, seed % 97 + 1)
            self.assertEqual(tell(calls), rows, seed)

    def test_lines_of_1000_calls(self):
        done = {}
        refused = {}
        for seed in range(1000, 1100):
            calls, rows = line_of(seed, 1000)
            for n, (call, row, told) in enumerate(zip(calls, rows, tell(calls))):
                self.assertEqual(told, row, (seed, n, call))
                if row[0] >= 0:
                    done[call[0]] = done.get(call[0], 0) + 1
                else:
                    refused[call[0], row[0]] = refused.get((call[0], row[0]), 0) + 1
        self.assertEqual(sorted(done), list(range(34)))
        self.assertGreater(min(done.values()), 20, done)
        self.assertEqual(sorted(refused), sorted(self.all_refusals()))

    def all_refusals(self):
        """Each call with each refusal that the document tells of it."""
        told = {0: (-22,), 1: (-22, -28), 2: (-22, -28), 3: (-22, -28), 4: (-22, -28, -33), 5: (-2, -71, -22, -16, -12),
                6: (-2, -71, -22, -16, -33), 7: (-2, -71, -17, -13), 8: (-2, -71, -22, -13, -17, -12, -62),
                9: (-2, -71, -22, -6), 10: (-22, -75), 11: (-2, -22), 12: (-2, -71, -17, -13, -16), 13: (-2, -6),
                14: (-2, -71, -22, -13), 15: (-22, -33), 16: (-2,), 17: (-2, -22), 18: (-2, -22, -33), 19: (-2, -22),
                20: (-22, -33), 21: (-2, -22, -6), 22: (-2,), 23: (-2,), 24: (-2,), 26: (-22,), 27: (-2,), 28: (-2,),
                29: (-2,), 31: (-2,), 32: (-2,)}
        return [(number, refusal) for number, refusals in told.items() for refusal in refusals]

    def test_each_beginning_answers_as_the_whole_line(self):
        calls, rows = line_of(7, 120)
        for count in range(1, 121):
            self.assertEqual(split(answers(flat(calls[:count]))), rows[:count])


if __name__ == "__main__":
    unittest.main()
