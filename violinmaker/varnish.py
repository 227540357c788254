"""Coats of varnish, and when they are dry."""

from violinmaker.goods import refusal_in_shop
from violinmaker.refusals import ALREADY, NO_REFUSAL, NOT_READY

ALL_COATS = 4


def days_to_dry(shop, instrument):
    return max(0, instrument.dry_day - shop.day)


def is_dry(shop, instrument):
    return days_to_dry(shop, instrument) == 0


def is_varnished(shop, instrument):
    return instrument.coats == ALL_COATS and is_dry(shop, instrument)


def vi_coat(shop, k):
    refusal = refusal_in_shop(shop, k)
    if refusal != NO_REFUSAL:
        return [refusal]
    instrument = shop.instruments[k]
    if instrument.coats == ALL_COATS:
        return [ALREADY]
    if not is_dry(shop, instrument):
        return [NOT_READY]
    instrument.coats += 1
    instrument.dry_day = shop.day + shop.drying
    return [instrument.dry_day]
