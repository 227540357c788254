"""How instruments are lent, come back, and are sold."""

from violinmaker.goods import IN_SHOP, LENT, SOLD, refusal_in_shop
from violinmaker.pupils import size_for
from violinmaker.refusals import ALREADY, NO_REFUSAL, NONE_THERE, NOT_AS_TOLD
from violinmaker.refusals import NOT_FITTING, NOT_READY, NOT_THAT_WAY
from violinmaker.varnish import is_varnished

LEAST_PRICE = 1
MOST_PRICE = 1000000


def is_whole(shop, instrument):
    return is_varnished(shop, instrument) and None not in instrument.strings


def lent_to(shop, p):
    """The number of the instrument that is lent to a pupil, or None."""
    for k, instrument in enumerate(shop.instruments):
        if instrument.place == LENT and instrument.pupil == p:
            return k
    return None


def rent_so_far(shop, instrument):
    return shop.rent * (shop.day - instrument.since)


def refusal_between(shop, k, p):
    """The refusal that is due ahead of all else between a pupil and an instrument in the shop."""
    if p >= len(shop.pupils):
        return NONE_THERE
    return refusal_in_shop(shop, k)


def vi_lend(shop, k, p):
    refusal = refusal_between(shop, k, p)
    if refusal != NO_REFUSAL:
        return [refusal]
    if lent_to(shop, p) is not None:
        return [ALREADY]
    instrument = shop.instruments[k]
    if not is_whole(shop, instrument):
        return [NOT_READY]
    if instrument.size != size_for(shop.pupils[p].arm):
        return [NOT_FITTING]
    instrument.place = LENT
    instrument.pupil = p
    instrument.since = shop.day
    return [0]


def vi_return(shop, k):
    if k >= len(shop.instruments):
        return [NONE_THERE]
    instrument = shop.instruments[k]
    if instrument.place != LENT:
        return [NOT_THAT_WAY]
    rent = rent_so_far(shop, instrument)
    p = instrument.pupil
    pupil = shop.pupils[p]
    pupil.credit += rent // 2
    shop.paid += rent
    instrument.place = IN_SHOP
    instrument.pupil = None
    instrument.since = None
    return [rent, p]


def vi_buy(shop, k, p, price):
    refusal = refusal_between(shop, k, p)
    if refusal != NO_REFUSAL:
        return [refusal]
    if price < LEAST_PRICE or price > MOST_PRICE:
        return [NOT_AS_TOLD]
    instrument = shop.instruments[k]
    if not is_whole(shop, instrument):
        return [NOT_READY]
    pupil = shop.pupils[p]
    used_up = min(pupil.credit, price)
    pupil.credit -= used_up
    shop.paid += price - used_up
    instrument.place = SOLD
    instrument.pupil = p
    return [price - used_up]
