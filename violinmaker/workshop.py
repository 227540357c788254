"""The calls of a line, read one behind another, and what they answer."""

from violinmaker.daybook import Daybook, vi_days, vi_start
from violinmaker.lending import vi_buy, vi_lend, vi_return
from violinmaker.plates import vi_thin, vi_tune
from violinmaker.pupils import vi_grow, vi_pupil
from violinmaker.strings import vi_gauge, vi_string, vi_unstring
from violinmaker.varnish import vi_coat
from violinmaker.wood import vi_aged, vi_best, vi_make, vi_plank

# By a call's number: how many whole numbers it has, a row that may stand behind them not among these.
COUNTS = (3, 4, 2, 1, 1, 3, 3, 1, 3, 2, 1, 2, 2, 1, 3, 1, 1)

START = 0
LAST_OF_STOCK = 4
LAST_OF_MAKING = 9
LAST_OF_PUPILS = 14


def end_of_call(calls, at):
    """Where the call ends that begins at a place."""
    end = at + 1 + COUNTS[calls[at]]
    if calls[at] == START:
        end += 1 + calls[end]
    return end


def answer_of_stock(shop, number, row):
    if number == 1:
        return vi_plank(shop, row[0], row[1], row[2], row[3])
    if number == 2:
        return vi_gauge(shop, row[0], row[1])
    if number == 3:
        return vi_pupil(shop, row[0])
    return vi_make(shop, row[0])


def answer_of_making(shop, number, row):
    if number == 5:
        return vi_thin(shop, row[0], row[1], row[2])
    if number == 6:
        return vi_tune(shop, row[0], row[1], row[2])
    if number == 7:
        return vi_coat(shop, row[0])
    if number == 8:
        return vi_string(shop, row[0], row[1], row[2])
    return vi_unstring(shop, row[0], row[1])


def answer_of_pupils(shop, number, row):
    if number == 10:
        return vi_days(shop, row[0])
    if number == 11:
        return vi_grow(shop, row[0], row[1])
    if number == 12:
        return vi_lend(shop, row[0], row[1])
    if number == 13:
        return vi_return(shop, row[0])
    return vi_buy(shop, row[0], row[1], row[2])


def answer_of_asking(shop, number, row):
    if number == 15:
        return vi_best(shop, row[0])
    return vi_aged(shop, row[0])


def answer_of_call(daybook, number, row):
    """All numbers that one call answers; row is what stands behind its own number."""
    if number == START:
        return vi_start(daybook, row[0], row[1], row[2], row[4:])
    if number <= LAST_OF_STOCK:
        return answer_of_stock(daybook.shop, number, row)
    if number <= LAST_OF_MAKING:
        return answer_of_making(daybook.shop, number, row)
    if number <= LAST_OF_PUPILS:
        return answer_of_pupils(daybook.shop, number, row)
    return answer_of_asking(daybook.shop, number, row)


def answers(calls):
    daybook = Daybook()
    answered = []
    at = 0
    while at < len(calls):
        end = end_of_call(calls, at)
        numbers = answer_of_call(daybook, calls[at], calls[at + 1:end])
        answered.append(len(numbers))
        answered.extend(numbers)
        at = end
    return answered
