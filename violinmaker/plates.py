"""Plates, and how they are scraped to a pitch."""

from violinmaker.goods import ZONES, refusal_in_shop
from violinmaker.refusals import CANNOT_BE, NO_REFUSAL, NONE_LEFT, NONE_THERE, NOT_AS_TOLD, NOT_FITTING

THINNEST = 20
MOST_PLATE = 1


def pitch_of(weights, zones):
    return sum([weight * zone for weight, zone in zip(weights, zones)])


def lowest_pitch(weights):
    return THINNEST * sum(weights)


def zone_to_scrape(weights, zones):
    """The zone of the greatest weight that can still be scraped (of like ones the first), or None."""
    chosen = None
    for zone in range(ZONES):
        if zones[zone] > THINNEST and (chosen is None or weights[zone] > weights[chosen]):
            chosen = zone
    return chosen


def scraped(weights, zones, want):
    """The zones after the fewest scrapes to a pitch that is not below the lowest one."""
    thinner = list(zones)
    while pitch_of(weights, thinner) > want:
        zone = zone_to_scrape(weights, thinner)
        thinner[zone] -= 1
    return thinner


def refusal_of_plate(shop, k, plate):
    """The refusal that is due ahead of all else of a call that only asks for a plate."""
    if k >= len(shop.instruments):
        return NONE_THERE
    if plate > MOST_PLATE:
        return NOT_AS_TOLD
    return NO_REFUSAL


def vi_thin(shop, k, plate, zone):
    refusal = refusal_in_shop(shop, k)
    if refusal != NO_REFUSAL:
        return [refusal]
    if plate > MOST_PLATE or zone >= ZONES:
        return [NOT_AS_TOLD]
    instrument = shop.instruments[k]
    if instrument.coats > 0:
        return [NOT_FITTING]
    zones = instrument.plates[plate]
    if zones[zone] == THINNEST:
        return [NONE_LEFT]
    zones[zone] -= 1
    return [pitch_of(shop.weights, zones)]


def vi_tune(shop, k, plate, want):
    refusal = refusal_in_shop(shop, k)
    if refusal != NO_REFUSAL:
        return [refusal]
    if plate > MOST_PLATE:
        return [NOT_AS_TOLD]
    instrument = shop.instruments[k]
    if instrument.coats > 0:
        return [NOT_FITTING]
    if lowest_pitch(shop.weights) > want:
        return [CANNOT_BE]
    before = sum(instrument.plates[plate])
    instrument.plates[plate] = scraped(shop.weights, instrument.plates[plate], want)
    return [before - sum(instrument.plates[plate])]


def vi_pitch(shop, k, plate):
    refusal = refusal_of_plate(shop, k, plate)
    if refusal != NO_REFUSAL:
        return [refusal]
    return [pitch_of(shop.weights, shop.instruments[k].plates[plate])]


def vi_fewest(shop, k, plate, want):
    refusal = refusal_of_plate(shop, k, plate)
    if refusal != NO_REFUSAL:
        return [refusal]
    if lowest_pitch(shop.weights) > want:
        return [CANNOT_BE]
    zones = shop.instruments[k].plates[plate]
    thinner = scraped(shop.weights, zones, want)
    return [sum(zones) - sum(thinner), pitch_of(shop.weights, thinner)]


def vi_plate(shop, k, plate):
    refusal = refusal_of_plate(shop, k, plate)
    if refusal != NO_REFUSAL:
        return [refusal]
    zones = shop.instruments[k].plates[plate]
    return [sum(zones)] + zones
