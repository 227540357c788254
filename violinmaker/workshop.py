"""The calls of a line, read one behind another, and what they answer."""

from violinmaker.asking import vi_free, vi_look, vi_owes, vi_size, vi_small, vi_sums, vi_whole
from violinmaker.daybook import Daybook, keep_change, vi_again, vi_back, vi_days, vi_start, vi_state
from violinmaker.goods import copy_of_shop
from violinmaker.lending import vi_buy, vi_lend, vi_return
from violinmaker.plates import vi_fewest, vi_pitch, vi_plate, vi_thin, vi_tune
from violinmaker.pupils import vi_grow, vi_pupil
from violinmaker.strings import vi_gauge, vi_nearest, vi_pull, vi_pulls, vi_stock, vi_string, vi_unstring
from violinmaker.varnish import vi_coat
from violinmaker.wood import vi_aged, vi_best, vi_make, vi_plank

# By a call's number: how many whole numbers it has, a row that may stand behind them not among these.
COUNTS = (3, 4, 2, 1, 1, 3, 3, 1, 3, 2, 1, 2, 2, 1, 3, 1, 1, 2, 3, 2, 3, 2, 1, 1, 1, 0, 1, 1, 1, 1, 0, 0, 0, 0)

START = 0
LAST_OF_STOCK = 4
LAST_OF_MAKING = 9
LAST_CHANGE = 14
LAST_OF_WOOD = 19
LAST_OF_INSTRUMENTS = 23
LAST_QUESTION = 30


def end_of_call(calls, at):
    """Where the call ends that begins at a place."""
    end = at + 1 + COUNTS[calls[at]]
    if calls[at] == START:
        end += 1 + calls[end]
    return end


def answer_of_stock(shop, number, row):
    if number == 1:
        return vi_plank(shop, row[0], row[1], row[2], row[3])
    if number == 2:
        return vi_gauge(shop, row[0], row[1])
    if number == 3:
        return vi_pupil(shop, row[0])
    return vi_make(shop, row[0])


def answer_of_making(shop, number, row):
    if number == 5:
        return vi_thin(shop, row[0], row[1], row[2])
    if number == 6:
        return vi_tune(shop, row[0], row[1], row[2])
    if number == 7:
        return vi_coat(shop, row[0])
    if number == 8:
        return vi_string(shop, row[0], row[1], row[2])
    return vi_unstring(shop, row[0], row[1])


def answer_of_pupils(shop, number, row):
    if number == 10:
        return vi_days(shop, row[0])
    if number == 11:
        return vi_grow(shop, row[0], row[1])
    if number == 12:
        return vi_lend(shop, row[0], row[1])
    if number == 13:
        return vi_return(shop, row[0])
    return vi_buy(shop, row[0], row[1], row[2])


def answer_of_change(daybook, number, row):
    # A copy is changed, so that the shop as it was can be taken back to.
    shop = copy_of_shop(daybook.shop)
    if number <= LAST_OF_STOCK:
        numbers = answer_of_stock(shop, number, row)
    elif number <= LAST_OF_MAKING:
        numbers = answer_of_making(shop, number, row)
    else:
        numbers = answer_of_pupils(shop, number, row)
    if numbers[0] >= 0:
        keep_change(daybook, shop)
    return numbers


def told_of_wood(shop, number, row):
    if number == 15:
        return vi_best(shop, row[0])
    if number == 16:
        return vi_aged(shop, row[0])
    if number == 17:
        return vi_pitch(shop, row[0], row[1])
    if number == 18:
        return vi_fewest(shop, row[0], row[1], row[2])
    return vi_plate(shop, row[0], row[1])


def told_of_instruments(shop, number, row):
    if number == 20:
        return vi_nearest(shop, row[0], row[1], row[2])
    if number == 21:
        return vi_pull(shop, row[0], row[1])
    if number == 22:
        return vi_pulls(shop, row[0])
    return vi_whole(shop, row[0])


def told_of_shop(shop, number, row):
    if number == 24:
        return vi_size(shop, row[0])
    if number == 25:
        return vi_small(shop)
    if number == 26:
        return vi_free(shop, row[0])
    if number == 27:
        return vi_owes(shop, row[0])
    if number == 28:
        return vi_look(shop, row[0])
    if number == 29:
        return vi_stock(shop, row[0])
    return vi_sums(shop)


def answer_of_question(shop, number, row):
    if number <= LAST_OF_WOOD:
        return told_of_wood(shop, number, row)
    if number <= LAST_OF_INSTRUMENTS:
        return told_of_instruments(shop, number, row)
    return told_of_shop(shop, number, row)


def answer_of_changes(daybook, number):
    if number == 31:
        return vi_back(daybook)
    if number == 32:
        return vi_again(daybook)
    return vi_state(daybook)


def answer_of_call(daybook, number, row):
    """All numbers that one call answers; row is what stands behind its own number."""
    if number == START:
        return vi_start(daybook, row[0], row[1], row[2], row[4:])
    if number <= LAST_CHANGE:
        return answer_of_change(daybook, number, row)
    if number <= LAST_QUESTION:
        return answer_of_question(daybook.shop, number, row)
    return answer_of_changes(daybook, number)


def answers(calls):
    daybook = Daybook()
    answered = []
    at = 0
    while at < len(calls):
        end = end_of_call(calls, at)
        numbers = answer_of_call(daybook, calls[at], calls[at + 1:end])
        answered.append(len(numbers))
        answered.extend(numbers)
        at = end
    return answered
