"""The one object of a line, how it starts, and how its days go by."""

from violinmaker.goods import Shop
from violinmaker.refusals import NOT_AS_TOLD, TOO_LATE

MOST_DRYING = 60
MOST_RENT = 1000
MOST_PULL = 1000000
MOST_WEIGHT = 20
MOST_DAYS = 3000
LAST_DAY = 20000


class Daybook:
    """It has no shop till a start isn't refused; each such start opens a new one."""

    def __init__(self):
        self.shop = None


def is_start_as_told(days, rent, most, weights):
    if days < 1 or days > MOST_DRYING or rent > MOST_RENT or most < 1 or most > MOST_PULL:
        return False
    return all([1 <= weight <= MOST_WEIGHT for weight in weights])


def vi_start(daybook, days, rent, most, weights):
    if not is_start_as_told(days, rent, most, weights):
        return [NOT_AS_TOLD]
    daybook.shop = Shop(days, rent, most, weights)
    return [0]


def vi_days(shop, n):
    if n < 1 or n > MOST_DAYS:
        return [NOT_AS_TOLD]
    if shop.day + n > LAST_DAY:
        return [TOO_LATE]
    shop.day += n
    return [shop.day]
