"""The calls of lorries that come and go (points 3 to 5)."""

from weighbridge.goods import MOST_MOIST
from weighbridge.refusals import (
    ALREADY, FINE, FULL, NO_GOOD_TARE, NONE_SUCH, NOTHING_NET, OUT_OF_RANGE, TOO_HEAVY,
)
from weighbridge.tickets import CALLED_OFF, DONE, FETCHES, ON_YARD, Ticket


def coming_refusal(yard, lorry, kind, way, moist):
    """Why a lorry can't be weighed as one that comes; the order is that of the promises."""
    if not yard.has_lorry(lorry) or not yard.has_kind(kind):
        return NONE_SUCH
    if way > FETCHES or moist > MOST_MOIST:
        return OUT_OF_RANGE
    if lorry in yard.lorries_there():
        return ALREADY
    return yard.plate.weighing_refusal()


def arrive_refusal(yard, lorry, kind, way):
    # Nothing is told of how wet the goods are before the lorry leaves.
    refusal = coming_refusal(yard, lorry, kind, way, 0)
    if refusal != FINE:
        return refusal
    if yard.is_full() or yard.is_out_of_tickets():
        return FULL
    return FINE


def arrive(yard, lorry, kind, way):
    refusal = arrive_refusal(yard, lorry, kind, way)
    if refusal != FINE:
        return [refusal]
    weight = yard.plate.reading()
    yard.tickets.append(Ticket(lorry, kind, way, weight))
    return [len(yard.tickets) - 1, weight]


def is_too_heavy_now(yard, lorry):
    return yard.lorries[lorry].is_too_heavy(yard.plate.reading(), yard.plate.axles)


def settling_refusal(yard, kind, way, net):
    if net == 0:
        return NOTHING_NET
    return yard.kinds[kind].stock_refusal(way, net)


def settle(yard, ticket, second, net, moist):
    goods = yard.kinds[ticket.kind]
    ticket.second = second
    ticket.net = net
    ticket.paid = goods.paid_for(net, moist)
    ticket.amount = goods.amount_for(ticket.paid)
    ticket.state = DONE
    goods.move(ticket.way, net)


def standing_refusal(yard, number):
    """Why there's no ticket of this number on the yard."""
    if not yard.has_ticket(number):
        return NONE_SUCH
    if yard.tickets[number].state != ON_YARD:
        return ALREADY
    return FINE


def leave_refusal(yard, number, moist):
    refusal = standing_refusal(yard, number)
    if refusal != FINE:
        return refusal
    if moist > MOST_MOIST:
        return OUT_OF_RANGE
    refusal = yard.plate.weighing_refusal()
    if refusal != FINE:
        return refusal
    ticket = yard.tickets[number]
    if is_too_heavy_now(yard, ticket.lorry):
        return TOO_HEAVY
    return settling_refusal(yard, ticket.kind, ticket.way, ticket.net_with(yard.plate.reading()))


def leave(yard, number, moist):
    refusal = leave_refusal(yard, number, moist)
    if refusal != FINE:
        return [refusal]
    ticket = yard.tickets[number]
    weight = yard.plate.reading()
    settle(yard, ticket, weight, ticket.net_with(weight), moist)
    yard.lorries[ticket.lorry].take_tare(min(ticket.first, weight), yard.day)
    return [ticket.net, ticket.paid, ticket.amount]


def net_above_tare(yard, lorry):
    """What the scale shows above the lorry's last tare; 0 if that's nothing."""
    return max(yard.plate.reading() - yard.lorries[lorry].last_tare(), 0)


def quick_refusal(yard, lorry, kind, way, moist):
    refusal = coming_refusal(yard, lorry, kind, way, moist)
    if refusal != FINE:
        return refusal
    if not yard.lorries[lorry].has_good_tare(yard.day, yard.good):
        return NO_GOOD_TARE
    # Who brings leaves empty, so only who fetches leaves with this weight.
    if way == FETCHES and is_too_heavy_now(yard, lorry):
        return TOO_HEAVY
    if yard.is_out_of_tickets():
        return FULL
    return settling_refusal(yard, kind, way, net_above_tare(yard, lorry))


def quick(yard, lorry, kind, way, moist):
    refusal = quick_refusal(yard, lorry, kind, way, moist)
    if refusal != FINE:
        return [refusal]
    net = net_above_tare(yard, lorry)
    ticket = Ticket(lorry, kind, way, yard.lorries[lorry].last_tare())
    yard.tickets.append(ticket)
    # One weight makes no new tare: the last one keeps its day.
    settle(yard, ticket, yard.plate.reading(), net, moist)
    return [ticket.net, ticket.paid, ticket.amount, len(yard.tickets) - 1]


def cancel(yard, number):
    refusal = standing_refusal(yard, number)
    if refusal != FINE:
        return [refusal]
    ticket = yard.tickets[number]
    ticket.state = CALLED_OFF
    return [ticket.first]
