"""Gauges, what strings pull, and how they are put on and taken off."""

from violinmaker.goods import Gauge, MOST_SIZE, STRINGS, refusal_in_shop
from violinmaker.refusals import ALREADY, CANNOT_BE, NO_REFUSAL, NO_ROOM, NONE_LEFT, NONE_THERE
from violinmaker.refusals import NOT_AS_TOLD, NOT_READY, NOT_THAT_WAY, TOO_MUCH_PULL
from violinmaker.varnish import is_varnished

LEAST_MASS = 1
MOST_MASS = 10000
MOST_COUNT = 100
MOST_GAUGES = 8
MOST_WANTED = 1000000

# Millimetres by size, and hundredths of a hertz by string.
LENGTHS = (190, 215, 240, 260, 280, 305, 320, 328)
HERTZ = (65925, 44000, 29366, 19600)

# A thousandth of a newton, in the parts in which a pull is exact.
PARTS = 10000000000000


def exact_pull(mass, size, s):
    """The pull in parts, so that nothing is rounded before it is held against something."""
    return 4 * mass * LENGTHS[size] ** 2 * HERTZ[s] ** 2


def exact_pulls(shop, instrument):
    """What all strings that are on pull together, in parts."""
    together = 0
    for s, g in enumerate(instrument.strings):
        if g is not None:
            together += exact_pull(shop.gauges[g].mass, instrument.size, s)
    return together


def nearest_gauge(shop, size, s, want):
    """The number of the nearest gauge, or None if there's no gauge."""
    nearest = None
    least = None
    for g, gauge in enumerate(shop.gauges):
        apart = abs(exact_pull(gauge.mass, size, s) - want * PARTS)
        if nearest is None or apart < least:
            nearest = g
            least = apart
    return nearest


def vi_gauge(shop, mass, count):
    if mass < LEAST_MASS or mass > MOST_MASS or count > MOST_COUNT:
        return [NOT_AS_TOLD]
    if len(shop.gauges) == MOST_GAUGES:
        return [NO_ROOM]
    shop.gauges.append(Gauge(mass, count))
    return [len(shop.gauges) - 1]


def refusal_to_string(shop, instrument, s, g):
    """The refusal that is due behind those of what isn't there, or not in the shop."""
    if s >= STRINGS:
        return NOT_AS_TOLD
    if not is_varnished(shop, instrument):
        return NOT_READY
    if instrument.strings[s] is not None:
        return ALREADY
    gauge = shop.gauges[g]
    if gauge.left == 0:
        return NONE_LEFT
    if exact_pulls(shop, instrument) + exact_pull(gauge.mass, instrument.size, s) > shop.most * PARTS:
        return TOO_MUCH_PULL
    return NO_REFUSAL


def vi_string(shop, k, s, g):
    if g >= len(shop.gauges):
        return [NONE_THERE]
    refusal = refusal_in_shop(shop, k)
    if refusal != NO_REFUSAL:
        return [refusal]
    instrument = shop.instruments[k]
    refusal = refusal_to_string(shop, instrument, s, g)
    if refusal != NO_REFUSAL:
        return [refusal]
    gauge = shop.gauges[g]
    gauge.left -= 1
    shop.strung += 1
    instrument.strings[s] = g
    return [exact_pull(gauge.mass, instrument.size, s) // PARTS]


def refusal_of_string(instrument, s):
    """The refusal that is due of a string that must be on."""
    if s >= STRINGS:
        return NOT_AS_TOLD
    if instrument.strings[s] is None:
        return NOT_THAT_WAY
    return NO_REFUSAL


def vi_unstring(shop, k, s):
    refusal = refusal_in_shop(shop, k)
    if refusal != NO_REFUSAL:
        return [refusal]
    instrument = shop.instruments[k]
    refusal = refusal_of_string(instrument, s)
    if refusal != NO_REFUSAL:
        return [refusal]
    g = instrument.strings[s]
    instrument.strings[s] = None
    return [g]


def vi_nearest(shop, size, s, want):
    if size > MOST_SIZE or s >= STRINGS or want > MOST_WANTED:
        return [NOT_AS_TOLD]
    g = nearest_gauge(shop, size, s, want)
    if g is None:
        return [CANNOT_BE]
    return [g, exact_pull(shop.gauges[g].mass, size, s) // PARTS]


def vi_pull(shop, k, s):
    if k >= len(shop.instruments):
        return [NONE_THERE]
    instrument = shop.instruments[k]
    refusal = refusal_of_string(instrument, s)
    if refusal != NO_REFUSAL:
        return [refusal]
    g = instrument.strings[s]
    return [exact_pull(shop.gauges[g].mass, instrument.size, s) // PARTS, g]


def vi_pulls(shop, k):
    if k >= len(shop.instruments):
        return [NONE_THERE]
    instrument = shop.instruments[k]
    return [exact_pulls(shop, instrument) // PARTS, STRINGS - instrument.strings.count(None)]


def vi_stock(shop, g):
    if g >= len(shop.gauges):
        return [NONE_THERE]
    gauge = shop.gauges[g]
    return [gauge.left, gauge.mass]
