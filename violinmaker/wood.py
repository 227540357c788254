"""Planks, their best pairs, and the instruments that are made of them."""

from violinmaker.goods import Instrument, MOST_SIZE, Plank
from violinmaker.refusals import CANNOT_BE, NO_ROOM, NONE_THERE, NOT_AS_TOLD

SPRUCE = 0
MAPLE = 1
MOST_TREE = 9
LEAST_DENSITY = 300
MOST_DENSITY = 800
MOST_AGED = 10000
MOST_PLANKS = 16
MOST_INSTRUMENTS = 3
DAYS_TO_LIE = 1825


def days_yet(shop, plank):
    return max(0, DAYS_TO_LIE - plank.aged - shop.day)


def may_be_used(shop, plank):
    return not plank.used and days_yet(shop, plank) == 0


def usable_planks(shop, kind):
    """The numbers of the planks of a kind that may be used, the least first."""
    return [i for i, plank in enumerate(shop.planks) if plank.kind == kind and may_be_used(shop, plank)]


def difference(shop, pair):
    return abs(shop.planks[pair[0]].density - shop.planks[pair[1]].density)


def matching_pairs(shop, kind):
    """All pairs of a kind that match, in the order in which the first of like ones is told."""
    pairs = []
    usable = usable_planks(shop, kind)
    for first in usable:
        for second in usable:
            if first < second and shop.planks[first].tree == shop.planks[second].tree:
                pairs.append((first, second))
    return pairs


def best_pair(shop, kind):
    """The numbers of the best pair of a kind, or None if no two match."""
    best = None
    for pair in matching_pairs(shop, kind):
        if best is None or difference(shop, pair) < difference(shop, best):
            best = pair
    return best


def is_plank_as_told(kind, tree, dense, aged):
    return kind <= MAPLE and tree <= MOST_TREE and LEAST_DENSITY <= dense <= MOST_DENSITY and aged <= MOST_AGED


def vi_plank(shop, kind, tree, dense, aged):
    if not is_plank_as_told(kind, tree, dense, aged):
        return [NOT_AS_TOLD]
    if len(shop.planks) == MOST_PLANKS:
        return [NO_ROOM]
    shop.planks.append(Plank(kind, tree, dense, aged))
    return [len(shop.planks) - 1]


def use_planks(shop, numbers):
    for i in numbers:
        plank = shop.planks[i]
        plank.used = True


def vi_make(shop, size):
    if size > MOST_SIZE:
        return [NOT_AS_TOLD]
    if len(shop.instruments) == MOST_INSTRUMENTS:
        return [NO_ROOM]
    top = best_pair(shop, SPRUCE)
    back = best_pair(shop, MAPLE)
    if top is None or back is None:
        return [CANNOT_BE]
    planks = [top[0], top[1], back[0], back[1]]
    use_planks(shop, planks)
    shop.instruments.append(Instrument(size, planks, shop.day))
    return [len(shop.instruments) - 1] + planks


def vi_best(shop, kind):
    if kind > MAPLE:
        return [NOT_AS_TOLD]
    pair = best_pair(shop, kind)
    if pair is None:
        return [CANNOT_BE]
    return [difference(shop, pair), pair[0], pair[1]]


def vi_aged(shop, i):
    if i >= len(shop.planks):
        return [NONE_THERE]
    plank = shop.planks[i]
    used = 1 if plank.used else 0
    return [days_yet(shop, plank), plank.kind, plank.tree, plank.density, used]
