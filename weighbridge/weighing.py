"""The calls on the scale itself (point 2)."""

from weighbridge.refusals import NOT_NOW, NOT_SO_MUCH, NOTHING_THERE, OUT_OF_RANGE, TOO_MUCH

MOST_AXLES = 6
MOST_ON_AXLE = 50000
# The scale can be zeroed as long as it's off by no more than this part of its capacity.
ZERO_PART = 50


def set_errors(plate, gain, offset):
    if not -20 <= gain <= 20 or not -2000 <= offset <= 2000:
        return [OUT_OF_RANGE]
    plate.gain = gain
    plate.offset = offset
    return [0]


def put_on(plate, axles):
    if not plate.is_empty():
        return [NOT_NOW]
    if not 1 <= len(axles) <= MOST_AXLES or max(axles) > MOST_ON_AXLE:
        return [OUT_OF_RANGE]
    plate.axles = list(axles)
    return [0, plate.reading()]


def take_off(plate):
    if plate.is_empty():
        return [NOTHING_THERE]
    plate.axles = []
    return [0, plate.reading()]


def show_reading(plate):
    if plate.shows_too_much():
        return [TOO_MUCH]
    return [0, plate.reading()]


def set_zero(plate):
    if not plate.is_empty():
        return [NOT_NOW]
    felt = plate.feels(0)
    unzeroed = felt + plate.zero
    if abs(unzeroed) * ZERO_PART > plate.capacity:
        return [NOT_SO_MUCH]
    plate.zero = unzeroed
    return [0, felt]


def try_weight(plate, weight):
    if not plate.is_empty():
        return [NOT_NOW]
    if not 1 <= weight <= plate.capacity:
        return [OUT_OF_RANGE]
    verdict = 1 if plate.may_be_wrong(weight) else 0
    return [verdict, plate.shows(weight), plate.wrong_with(weight)]
