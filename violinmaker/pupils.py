"""Pupils, and the size for their arm."""

from violinmaker.goods import Pupil
from violinmaker.refusals import NO_ROOM, NONE_THERE, NOT_AS_TOLD

LEAST_ARM = 300
MOST_ARM = 800
MOST_PUPILS = 10

# The least arm for each size, in millimetres.
ARMS = (0, 380, 420, 450, 480, 520, 560, 590)


def size_for(arm):
    fitting = 0
    for size, least in enumerate(ARMS):
        if least <= arm:
            fitting = size
    return fitting


def vi_pupil(shop, arm):
    if arm < LEAST_ARM or arm > MOST_ARM:
        return [NOT_AS_TOLD]
    if len(shop.pupils) == MOST_PUPILS:
        return [NO_ROOM]
    shop.pupils.append(Pupil(arm))
    return [len(shop.pupils) - 1]


def vi_grow(shop, p, n):
    if p >= len(shop.pupils):
        return [NONE_THERE]
    pupil = shop.pupils[p]
    if n == 0 or pupil.arm + n > MOST_ARM:
        return [NOT_AS_TOLD]
    pupil.arm += n
    return [size_for(pupil.arm)]
