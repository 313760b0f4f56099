"""A line of calls on one yard, and what they answer."""

from weighbridge.checking import tell_excess, tell_fits, tell_odd, tell_tare
from weighbridge.plate import Plate
from weighbridge.refusals import NOT_BEGUN, OUT_OF_RANGE
from weighbridge.setting import add_kind, add_lorry, begin_in_range, pass_days
from weighbridge.telling import (
    tell_dry, tell_enough, tell_heaviest, tell_money, tell_state, tell_stock, tell_sums, tell_ticket, tell_totals,
    tell_trips, tell_yard,
)
from weighbridge.traffic import arrive, cancel, leave, quick
from weighbridge.weighing import put_on, set_errors, set_zero, show_reading, take_off, try_weight
from weighbridge.yard import Yard

BEGIN = 0
KIND = 1
LORRY = 2
DRIFT = 3
ON = 4
OFF = 5
SHOW = 6
ZERO = 7
TEST = 8
ALLOWED = 9
ARRIVE = 10
LEAVE = 11
QUICK = 12
CANCEL = 13
DAYS = 14
TARE = 15
ODD = 16
EXCESS = 17
FITS = 18
DRY = 19
YARD = 20
LOOK = 21
STOCK = 22
ENOUGH = 23
TOTALS = 24
TRIPS = 25
MONEY = 26
HEAVIEST = 27
SUMS = 28
STATE = 29

# How many whole numbers stand behind each call's own, by its number; of on, its row's length alone.
WIDTHS = (4, 3, 2, 2, 1, 0, 0, 0, 1, 1, 3, 2, 4, 1, 1, 1, 1, 1, 1, 3, 0, 1, 1, 2, 1, 1, 0, 0, 0, 0)


class Line:
    """What a line's calls work on: no yard before a begin that answers 0."""

    def __init__(self):
        self.yard = None

    def begin(self, step, steps, room, good):
        if not begin_in_range(step, steps, room, good):
            return [OUT_OF_RANGE]
        self.yard = Yard(Plate(step, steps), room, good)
        return [0]


def ask_plate(plate, number, given):
    if number == DRIFT:
        return set_errors(plate, given[0], given[1])
    if number == ON:
        return put_on(plate, given[1:])
    if number == OFF:
        return take_off(plate)
    if number == SHOW:
        return show_reading(plate)
    if number == ZERO:
        return set_zero(plate)
    if number == TEST:
        return try_weight(plate, given[0])
    return [plate.halves_allowed(given[0])]


def ask_yard(yard, number, given):
    if number == KIND:
        return add_kind(yard, given[0], given[1], given[2])
    if number == LORRY:
        return add_lorry(yard, given[0], given[1])
    if number == ARRIVE:
        return arrive(yard, given[0], given[1], given[2])
    if number == LEAVE:
        return leave(yard, given[0], given[1])
    if number == QUICK:
        return quick(yard, given[0], given[1], given[2], given[3])
    if number == CANCEL:
        return cancel(yard, given[0])
    if number == DAYS:
        return pass_days(yard, given[0])
    return ask_plate(yard.plate, number, given)


def look_up(yard, number, given):
    if number == TARE:
        return tell_tare(yard, given[0])
    if number == ODD:
        return tell_odd(yard, given[0])
    if number == EXCESS:
        return tell_excess(yard, given[0])
    if number == FITS:
        return tell_fits(yard, given[0])
    if number == DRY:
        return tell_dry(yard, given[0], given[1], given[2])
    if number == YARD:
        return tell_yard(yard)
    if number == LOOK:
        return tell_ticket(yard, given[0])
    if number == STOCK:
        return tell_stock(yard, given[0])
    if number == ENOUGH:
        return tell_enough(yard, given[0], given[1])
    if number == TOTALS:
        return tell_totals(yard, given[0])
    if number == TRIPS:
        return tell_trips(yard, given[0])
    if number == MONEY:
        return tell_money(yard)
    if number == HEAVIEST:
        return tell_heaviest(yard)
    if number == SUMS:
        return tell_sums(yard)
    return tell_state(yard)


def ask(line, number, given):
    if number == BEGIN:
        return line.begin(given[0], given[1], given[2], given[3])
    if line.yard is None:
        return [NOT_BEGUN]
    if number >= TARE:
        return look_up(line.yard, number, given)
    return ask_yard(line.yard, number, given)


def end_of_call(calls, start):
    end = start + 1 + WIDTHS[calls[start]]
    if calls[start] == ON:
        return end + calls[start + 1]
    return end


def answers(calls):
    """For each call, in order: how many numbers it answers, then these."""
    line = Line()
    answered = []
    start = 0
    while start < len(calls):
        end = end_of_call(calls, start)
        numbers = ask(line, calls[start], calls[start + 1:end])
        answered.append(len(numbers))
        answered.extend(numbers)
        start = end
    return answered
