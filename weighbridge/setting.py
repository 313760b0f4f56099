"""The calls that set the yard up and let its days pass (point 1, and days of point 5)."""

from weighbridge.goods import MOST_KINDS, Goods
from weighbridge.lorries import MOST_LORRIES, Lorry
from weighbridge.refusals import OUT_OF_RANGE, TOO_MUCH


def begin_in_range(step, steps, room, good):
    return 1 <= step <= 100 and 100 <= steps <= 5000 and 1 <= room <= 8 and good <= 365


def add_kind(yard, price, wet, most):
    if not 1 <= price <= 100000 or wet > 50 or most > 10000000:
        return [OUT_OF_RANGE]
    if len(yard.kinds) >= MOST_KINDS:
        return [TOO_MUCH]
    yard.kinds.append(Goods(price, wet, most))
    return [len(yard.kinds) - 1]


def add_lorry(yard, axle, gross):
    if not 1 <= axle <= 20000 or not 1 <= gross <= 100000:
        return [OUT_OF_RANGE]
    if len(yard.lorries) >= MOST_LORRIES:
        return [TOO_MUCH]
    yard.lorries.append(Lorry(axle, gross))
    return [len(yard.lorries) - 1]


def pass_days(yard, days):
    if not 1 <= days <= 400:
        return [OUT_OF_RANGE]
    yard.day = yard.day + days
    return [yard.day]
