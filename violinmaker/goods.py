"""What a shop holds: planks, gauges, pupils and instruments."""

from violinmaker.refusals import NO_REFUSAL, NONE_THERE, NOT_IN_SHOP

IN_SHOP = 0
LENT = 1
SOLD = 2

ZONES = 6
THICKEST = 50
STRINGS = 4
MOST_SIZE = 7


class Plank:
    """A plank; aged tells how many days it had lain on day 0, whenever it came."""

    def __init__(self, kind, tree, density, aged):
        self.kind = kind
        self.tree = tree
        self.density = density
        self.aged = aged
        self.used = False


class Gauge:
    """Strings of one mass (milligrams a metre), and how many are left of them."""

    def __init__(self, mass, left):
        self.mass = mass
        self.left = left


class Pupil:
    """A pupil's arm (millimetres), and what counts for them when they buy."""

    def __init__(self, arm):
        self.arm = arm
        self.credit = 0


class Instrument:
    """An instrument; strings holds a gauge's number, or None, for each string."""

    def __init__(self, size, planks, day):
        self.size = size
        self.planks = planks
        self.plates = [[THICKEST] * ZONES, [THICKEST] * ZONES]
        self.coats = 0
        self.dry_day = day
        self.strings = [None] * STRINGS
        self.place = IN_SHOP
        self.pupil = None
        self.since = None


class Shop:
    """All that changes between a start and the next one, and what that start told.

    paid is all that was paid, strung how many strings were ever put on.
    """

    def __init__(self, drying, rent, most, weights):
        self.drying = drying
        self.rent = rent
        self.most = most
        self.weights = weights
        self.day = 0
        self.paid = 0
        self.strung = 0
        self.planks = []
        self.gauges = []
        self.pupils = []
        self.instruments = []


def copy_of_plank(plank):
    copied = Plank(plank.kind, plank.tree, plank.density, plank.aged)
    copied.used = plank.used
    return copied


def copy_of_pupil(pupil):
    copied = Pupil(pupil.arm)
    copied.credit = pupil.credit
    return copied


def copy_of_instrument(instrument):
    copied = Instrument(instrument.size, list(instrument.planks), instrument.dry_day)
    copied.plates = [list(zones) for zones in instrument.plates]
    copied.coats = instrument.coats
    copied.strings = list(instrument.strings)
    copied.place = instrument.place
    copied.pupil = instrument.pupil
    copied.since = instrument.since
    return copied


def copy_of_shop(shop):
    """A shop as it is now, that can be changed while the other stays."""
    copied = Shop(shop.drying, shop.rent, shop.most, shop.weights)
    copied.day = shop.day
    copied.paid = shop.paid
    copied.strung = shop.strung
    copied.planks = [copy_of_plank(plank) for plank in shop.planks]
    copied.gauges = [Gauge(gauge.mass, gauge.left) for gauge in shop.gauges]
    copied.pupils = [copy_of_pupil(pupil) for pupil in shop.pupils]
    copied.instruments = [copy_of_instrument(instrument) for instrument in shop.instruments]
    return copied


def refusal_in_shop(shop, k):
    """The refusal that is due ahead of all else of a call for instruments in the shop."""
    if k >= len(shop.instruments):
        return NONE_THERE
    if shop.instruments[k].place != IN_SHOP:
        return NOT_IN_SHOP
    return NO_REFUSAL
