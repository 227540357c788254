"""The one object of a line: how it starts, how its days go by, how changes are taken back and done again."""

from violinmaker.goods import Shop
from violinmaker.refusals import NONE_THERE, NOT_AS_TOLD, TOO_LATE

MOST_DRYING = 60
MOST_RENT = 1000
MOST_PULL = 1000000
MOST_WEIGHT = 20
MOST_DAYS = 3000
LAST_DAY = 20000
MOST_TAKEN_BACK = 30


class Daybook:
    """It has no shop till a start isn't refused; each such start opens a new one.

    past holds the shop as it was ahead of each change that can be taken back, the last one at the end;
    future the shop as it was behind each change that can be done again, the one taken back last at the end.
    """

    def __init__(self):
        self.shop = None
        self.past = []
        self.future = []


def is_start_as_told(days, rent, most, weights):
    if days < 1 or days > MOST_DRYING or rent > MOST_RENT or most < 1 or most > MOST_PULL:
        return False
    return all([1 <= weight <= MOST_WEIGHT for weight in weights])


def vi_start(daybook, days, rent, most, weights):
    if not is_start_as_told(days, rent, most, weights):
        return [NOT_AS_TOLD]
    daybook.shop = Shop(days, rent, most, weights)
    daybook.past = []
    daybook.future = []
    return [0]


def vi_days(shop, n):
    if n < 1 or n > MOST_DAYS:
        return [NOT_AS_TOLD]
    if shop.day + n > LAST_DAY:
        return [TOO_LATE]
    shop.day += n
    return [shop.day]


def keep_change(daybook, changed):
    """Puts a changed shop in the place of the one that was, which can be taken back to."""
    daybook.past.append(daybook.shop)
    if len(daybook.past) > MOST_TAKEN_BACK:
        daybook.past.pop(0)
    daybook.future = []
    daybook.shop = changed


def vi_back(daybook):
    if len(daybook.past) == 0:
        return [NONE_THERE]
    daybook.future.append(daybook.shop)
    daybook.shop = daybook.past.pop()
    return [len(daybook.past)]


def vi_again(daybook):
    if len(daybook.future) == 0:
        return [NONE_THERE]
    daybook.past.append(daybook.shop)
    daybook.shop = daybook.future.pop()
    return [len(daybook.future)]


def vi_state(daybook):
    shop = daybook.shop
    held = [len(shop.planks), len(shop.gauges), len(shop.instruments), len(shop.pupils)]
    return [shop.day] + held + [len(daybook.past), len(daybook.future)]
