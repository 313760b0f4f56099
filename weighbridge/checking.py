"""The calls that look at a lorry's tares and at what it may weigh (point 6)."""

from weighbridge.refusals import FINE, NONE_SUCH, NOTHING_THERE


def tell_tare(yard, number):
    if not yard.has_lorry(number):
        return [NONE_SUCH]
    lorry = yard.lorries[number]
    if not lorry.has_tare():
        return [NOTHING_THERE]
    return [lorry.last_tare(), lorry.tare_age(yard.day), 1 if lorry.has_good_tare(yard.day, yard.good) else 0]


def tell_odd(yard, number):
    if not yard.has_lorry(number):
        return [NONE_SUCH]
    lorry = yard.lorries[number]
    if not lorry.has_two_tares():
        return [NOTHING_THERE]
    return [1 if lorry.has_odd_tare() else 0, lorry.tare_change()]


def weighed_refusal(yard, number):
    """Why what stands on the scale can't be held against what such a lorry may weigh."""
    if not yard.has_lorry(number):
        return NONE_SUCH
    return yard.plate.weighing_refusal()


def tell_excess(yard, number):
    refusal = weighed_refusal(yard, number)
    if refusal != FINE:
        return [refusal]
    lorry = yard.lorries[number]
    weight = yard.plate.reading()
    axles = yard.plate.axles
    return [0 if lorry.is_too_heavy(weight, axles) else 1, lorry.gross_above(weight), lorry.axle_above(axles)]


def tell_fits(yard, number):
    refusal = weighed_refusal(yard, number)
    if refusal != FINE:
        return [refusal]
    return [yard.lorries[number].gross_left(yard.plate.reading())]
