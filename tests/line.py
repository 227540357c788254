"""How the tests write a line of calls, and read what it answers."""

from violinmaker.workshop import answers

HIGHEST = 4294967295
WEIGHTS = (1, 2, 3, 4, 5, 6)


def start(days=1, rent=10, most=1000000, weights=WEIGHTS):
    return [0, days, rent, most, len(weights)] + list(weights)


def plank(kind=0, tree=0, dense=500, aged=1825):
    return [1, kind, tree, dense, aged]


def gauge(mass=100, count=100):
    return [2, mass, count]


def pupil(arm=600):
    return [3, arm]


def make(size=7):
    return [4, size]


def thin(k=0, plate=0, zone=0):
    return [5, k, plate, zone]


def tune(k=0, plate=0, want=0):
    return [6, k, plate, want]


def coat(k=0):
    return [7, k]


def string(k=0, s=0, g=0):
    return [8, k, s, g]


def unstring(k=0, s=0):
    return [9, k, s]


def days(n=1):
    return [10, n]


def grow(p=0, n=1):
    return [11, p, n]


def lend(k=0, p=0):
    return [12, k, p]


def give_back(k=0):
    return [13, k]


def buy(k=0, p=0, price=1000):
    return [14, k, p, price]


def best(kind=0):
    return [15, kind]


def aged(i=0):
    return [16, i]


def wood(pairs=1):
    """Planks of which so many instruments can be made, each of the planks 4n to 4n + 3."""
    calls = []
    for n in range(pairs):
        calls += [plank(0, n), plank(0, n), plank(1, n), plank(1, n)]
    return calls


def begun(**told):
    """One instrument, number 0, as it is made."""
    size = told.pop("size", 7)
    return [start(**told)] + wood() + [make(size)]


def varnished(k=0, drying=1):
    return [coat(k), days(drying)] * 4


def strung(k=0, g=0):
    return [string(k, s, g) for s in range(4)]


def whole(**told):
    """One whole instrument, number 0, with gauge 0 on it, and pupil 0, whom it fits at 600."""
    drying = told.get("days", 1)
    arm = told.pop("arm", 600)
    return begun(**told) + varnished(0, drying) + [gauge()] + strung() + [pupil(arm)]


def days_to(wanted, now=0):
    """The calls that bring the day from now to the one that's wanted."""
    calls = []
    while now < wanted:
        step = min(3000, wanted - now)
        calls.append(days(step))
        now += step
    return calls


def split(numbers):
    """What was answered, call by call, without the counts."""
    rows = []
    at = 0
    while at < len(numbers):
        end = at + 1 + numbers[at]
        row = numbers[at + 1:end]
        if numbers[at] < 1 or len(row) != numbers[at]:
            raise AssertionError("a count doesn't tell what stands behind it")
        rows.append(row)
        at = end
    return rows


def tell(calls):
    """What each of the calls answers; each line is also asked twice, and its list held against a copy."""
    flat = [number for call in calls for number in call]
    before = list(flat)
    numbers = answers(flat)
    if flat != before:
        raise AssertionError("the list that was handed in is changed")
    if answers(flat) != numbers:
        raise AssertionError("a second time answers otherwise")
    if not all(type(number) is int for number in numbers):
        raise AssertionError("something else than whole numbers is answered")
    rows = split(numbers)
    if len(rows) != len(calls):
        raise AssertionError("not each call is answered once")
    return rows


def last(calls):
    return tell(calls)[-1]


def tail(calls, more):
    """What the calls of more answer behind the others."""
    return tell(calls + more)[len(calls):]
