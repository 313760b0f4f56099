"""The calls that tell of goods, tickets and the whole yard (point 7)."""

from weighbridge.goods import MOST_MOIST
from weighbridge.refusals import NONE_SUCH, NOTHING_THERE, OUT_OF_RANGE
from weighbridge.tickets import BRINGS, CALLED_OFF, DONE, FETCHES, ON_YARD

MOST_NET = 1000000


def tell_dry(yard, kind, net, moist):
    if not yard.has_kind(kind):
        return [NONE_SUCH]
    if net > MOST_NET or moist > MOST_MOIST:
        return [OUT_OF_RANGE]
    goods = yard.kinds[kind]
    paid = goods.paid_for(net, moist)
    return [paid, goods.amount_for(paid)]


def tell_yard(yard):
    numbers = yard.tickets_in(ON_YARD)
    return [len(numbers)] + numbers


def tell_ticket(yard, number):
    if not yard.has_ticket(number):
        return [NONE_SUCH]
    ticket = yard.tickets[number]
    whose = [ticket.lorry, ticket.kind, ticket.way]
    weights = [ticket.first, ticket.second, ticket.net]
    return [ticket.state] + whose + weights + [ticket.paid, ticket.amount]


def tell_stock(yard, kind):
    if not yard.has_kind(kind):
        return [NONE_SUCH]
    goods = yard.kinds[kind]
    return [goods.stock, goods.room_left()]


def tell_enough(yard, kind, wanted):
    if not yard.has_kind(kind):
        return [NONE_SUCH]
    return [1 if yard.kinds[kind].stock >= wanted else 0]


def done_tickets(yard, way):
    done = [yard.tickets[number] for number in yard.tickets_in(DONE)]
    return [ticket for ticket in done if ticket.way == way]


def tell_totals(yard, kind):
    if not yard.has_kind(kind):
        return [NONE_SUCH]
    came = [ticket.net for ticket in done_tickets(yard, BRINGS) if ticket.kind == kind]
    went = [ticket.net for ticket in done_tickets(yard, FETCHES) if ticket.kind == kind]
    return [0, sum(came), sum(went), len(came), len(went)]


def tell_trips(yard, lorry):
    if not yard.has_lorry(lorry):
        return [NONE_SUCH]
    numbers = [number for number in yard.tickets_in(DONE) if yard.tickets[number].lorry == lorry]
    return [len(numbers)] + numbers


def all_amounts(tickets):
    return sum([ticket.amount for ticket in tickets])


def tell_money(yard):
    return [0, all_amounts(done_tickets(yard, BRINGS)), all_amounts(done_tickets(yard, FETCHES))]


def tell_heaviest(yard):
    done = yard.tickets_in(DONE)
    if len(done) == 0:
        return [NOTHING_THERE]
    heaviest = done[0]
    for number in done:
        # Only a greater net takes its place, so that of alike ones the first stays.
        if yard.tickets[number].net > yard.tickets[heaviest].net:
            heaviest = number
    return [heaviest, yard.tickets[heaviest].net]


def tell_sums(yard):
    stock = sum([goods.stock for goods in yard.kinds])
    return [0, stock, len(yard.tickets_in(DONE)), len(yard.tickets_in(CALLED_OFF))]


def tell_state(yard):
    counts = [len(yard.kinds), len(yard.lorries), len(yard.tickets), len(yard.tickets_in(ON_YARD))]
    return [0, yard.day] + counts + [yard.plate.load(), yard.plate.zero]
