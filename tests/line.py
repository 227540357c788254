"""How the tests write a line of calls, and read what it answers."""

from violinmaker.workshop import answers

HIGHEST = 4294967295
WEIGHTS = (1, 2, 3, 4, 5, 6)


def start(days=1, rent=10, most=1000000, weights=WEIGHTS):
    return [0, days, rent, most, len(weights)] + list(weights)


def plank(kind=0, tree=0, dense=500, aged=1825):
    return [1, kind, tree, dense, aged]


def gauge(mass=100, count=100):
    return [2, mass, count]


def pupil(arm=600):
    return [3, arm]


def make(size=7):
    return [4, size]


def thin(k=0, plate=0, zone=0):
    return [5, k, plate, zone]


def tune(k=0, plate=0, want=0):
    return [6, k, plate, want]


def coat(k=0):
    return [7, k]


def string(k=0, s=0, g=0):
    return [8, k, s, g]


def unstring(k=0, s=0):
    return [9, k, s]


def days(n=1):
    return [10, n]


def grow(p=0, n=1):
    return [11, p, n]


def lend(k=0, p=0):
    return [12, k, p]


def give_back(k=0):
    return [13, k]


def buy(k=0, p=0, price=1000):
    return [14, k, p, price]


def best(kind=0):
    return [15, kind]


def aged(i=0):
    return [16, i]


def pitch(k=0, plate=0):
    return [17, k, plate]


def fewest(k=0, plate=0, want=0):
    return [18, k, plate, want]


def zones(k=0, plate=0):
    return [19, k, plate]


def nearest(size=7, s=0, want=0):
    return [20, size, s, want]


def pull(k=0, s=0):
    return [21, k, s]


def pulls(k=0):
    return [22, k]


def wholeness(k=0):
    return [23, k]


def size_of(p=0):
    return [24, p]


def small():
    return [25]


def free(size=7):
    return [26, size]


def owes(p=0):
    return [27, p]


def look(k=0):
    return [28, k]


def stock(g=0):
    return [29, g]


def sums():
    return [30]


def back():
    return [31]


def again():
    return [32]


def state():
    return [33]


def all_asked():
    """Calls that only ask, and together tell all that there is; the last one is vi_state."""
    calls = [best(0), best(1), small(), sums()]
    calls += [aged(i) for i in range(16)] + [stock(g) for g in range(8)] + [free(size) for size in range(8)]
    for p in range(10):
        calls += [size_of(p), owes(p)]
    for k in range(3):
        calls += [look(k), wholeness(k), pulls(k)] + [pull(k, s) for s in range(4)]
        for side in range(2):
            calls += [pitch(k, side), zones(k, side), fewest(k, side, 900)]
    calls += [nearest(size, size % 4, 30000) for size in range(8)]
    return calls + [state()]


def split(numbers):
    """What was answered, call by call, without the counts."""
    rows = []
    at = 0
    while at < len(numbers):
        end = at + 1 + numbers[at]
        row = numbers[at + 1:end]
        if numbers[at] < 1 or len(row) != numbers[at]:
            raise AssertionError("a count doesn't tell what stands behind it")
        rows.append(row)
        at = end
    return rows


def flat(calls):
    return [number for call in calls for number in call]


def view(calls):
    """What all that can be asked answers behind some calls."""
    return split(answers(flat(calls + all_asked())))[len(calls):]


def shop_of(seen):
    """What a view tells, but for how many changes can be taken back and done again."""
    return seen[:-1] + [seen[-1][:-2]]


def wood(pairs=1):
    """Planks of which so many instruments can be made, each of the planks 4n to 4n + 3."""
    calls = []
    for n in range(pairs):
        calls += [plank(0, n), plank(0, n), plank(1, n), plank(1, n)]
    return calls


def begun(**told):
    """One instrument, number 0, as it is made."""
    size = told.pop("size", 7)
    return [start(**told)] + wood() + [make(size)]


def varnished(k=0, drying=1):
    return [coat(k), days(drying)] * 4


def strung(k=0, g=0):
    return [string(k, s, g) for s in range(4)]


def whole(**told):
    """One whole instrument, number 0, with gauge 0 on it, and pupil 0, whom it fits at 600."""
    drying = told.get("days", 1)
    arm = told.pop("arm", 600)
    return begun(**told) + varnished(0, drying) + [gauge()] + strung() + [pupil(arm)]


def long_line():
    """A line that comes by each call, and in which much could go another way if something had stayed."""
    calls = [start(3, 7, 130000, [1, 2, 3, 4, 5, 6])]
    calls += [plank(n % 2, n // 4, 400 + 7 * n * n % 50, 1820 + n) for n in range(12)]
    calls += [gauge(400, 3), gauge(300, 6), gauge(2500, 0), pupil(580), pupil(600), pupil(300), best(0), best(1)]
    calls += [days(5), make(7), best(0), make(6), days(3), make(0), back(), nearest(7, 0, 50000), again()]
    calls += [thin(0, 0, 5), tune(0, 1, 900), thin(1, 1, 1), tune(1, 0, 1000), thin(0, 1, 5), thin(0, 0, 5)]
    calls += [pitch(0, 1), zones(0, 0), fewest(1, 1, 800), state(), back(), back(), state(), again()]
    calls += [coat(0), days(3), coat(0), coat(1), days(3), coat(0), coat(1), days(3), coat(0), coat(1), days(3)]
    calls += [coat(1), string(0, 0, 0), days(3), string(0, 1, 1), string(0, 2, 1), string(0, 3, 1), wholeness(0)]
    calls += [string(1, 0, 1), string(1, 1, 1), string(1, 2, 0), string(1, 3, 0), free(7), lend(0, 1), lend(1, 0)]
    calls += [pull(1, 2), pulls(0), days(11), give_back(0), days(4), owes(0), grow(0, 15), small(), size_of(0)]
    calls += [give_back(1), back(), back(), back(), again(), again(), again(), lend(0, 0), days(2), buy(1, 1, 500)]
    calls += [look(1), sums(), stock(0), give_back(0), unstring(0, 3), buy(0, 0, 300), string(0, 3, 1), owes(0)]
    calls += [buy(0, 0, 300), back(), back(), again(), back(), string(0, 3, 1), buy(0, 0, 300), grow(2, 80), sums()]
    return calls + [plank(), best(0), aged(12), days(100), aged(2), gauge(1, 1), pupil(400), state()]


def days_to(wanted, now=0):
    """The calls that bring the day from now to the one that's wanted."""
    calls = []
    while now < wanted:
        step = min(3000, wanted - now)
        calls.append(days(step))
        now += step
    return calls


def tell(calls):
    """What each of the calls answers; each line is also asked twice, and its list held against a copy."""
    line = flat(calls)
    before = list(line)
    numbers = answers(line)
    if line != before:
        raise AssertionError("the list that was handed in is changed")
    if answers(line) != numbers:
        raise AssertionError("a second time answers otherwise")
    if not all(type(number) is int for number in numbers):
        raise AssertionError("something else than whole numbers is answered")
    rows = split(numbers)
    if len(rows) != len(calls):
        raise AssertionError("not each call is answered once")
    return rows


def last(calls):
    return tell(calls)[-1]


def tail(calls, more):
    """What the calls of more answer behind the others."""
    return tell(calls + more)[len(calls):]
