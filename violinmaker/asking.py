"""What is told of instruments, of the pupils they fit, and of the shop as a whole."""

from violinmaker.goods import IN_SHOP, LENT, MOST_SIZE, SOLD
from violinmaker.lending import is_whole, lent_to, rent_so_far
from violinmaker.pupils import size_for
from violinmaker.refusals import NONE_THERE, NOT_AS_TOLD
from violinmaker.varnish import days_to_dry

# What is added to a pupil's number, so that one number tells where an instrument is.
LENT_ABOVE = 1
SOLD_ABOVE = 101


def bits_of(chosen):
    """One number for a row of True and False; the first of them is worth 1, each next one twice as much."""
    bits = 0
    worth = 1
    for among in chosen:
        if among:
            bits += worth
        worth *= 2
    return bits


def has_a_small_one(shop, p):
    k = lent_to(shop, p)
    return k is not None and shop.instruments[k].size < size_for(shop.pupils[p].arm)


def is_free(shop, instrument, size):
    return instrument.size == size and instrument.place == IN_SHOP and is_whole(shop, instrument)


def whereabouts(instrument):
    if instrument.place == LENT:
        return instrument.pupil + LENT_ABOVE
    if instrument.place == SOLD:
        return instrument.pupil + SOLD_ABOVE
    return 0


def vi_whole(shop, k):
    if k >= len(shop.instruments):
        return [NONE_THERE]
    instrument = shop.instruments[k]
    whole = 1 if is_whole(shop, instrument) else 0
    return [whole, instrument.coats, days_to_dry(shop, instrument)]


def vi_size(shop, p):
    if p >= len(shop.pupils):
        return [NONE_THERE]
    arm = shop.pupils[p].arm
    k = lent_to(shop, p)
    return [size_for(arm), arm, 0 if k is None else k + 1]


def vi_small(shop):
    small = [has_a_small_one(shop, p) for p in range(len(shop.pupils))]
    return [small.count(True), bits_of(small)]


def vi_free(shop, size):
    if size > MOST_SIZE:
        return [NOT_AS_TOLD]
    free = [is_free(shop, instrument, size) for instrument in shop.instruments]
    return [free.count(True), bits_of(free)]


def vi_owes(shop, p):
    if p >= len(shop.pupils):
        return [NONE_THERE]
    k = lent_to(shop, p)
    rent = 0 if k is None else rent_so_far(shop, shop.instruments[k])
    return [rent, shop.pupils[p].credit]


def vi_look(shop, k):
    if k >= len(shop.instruments):
        return [NONE_THERE]
    instrument = shop.instruments[k]
    return [instrument.size] + instrument.planks + [whereabouts(instrument)]


def vi_sums(shop):
    used = len([plank for plank in shop.planks if plank.used])
    left = sum([gauge.left for gauge in shop.gauges])
    return [shop.paid, used, shop.strung, left]
