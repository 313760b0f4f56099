"""Goods of one kind: their price, how wet they may be, and how much there is of them."""

from weighbridge.refusals import FINE, NO_ROOM, NOT_SO_MUCH
from weighbridge.tickets import BRINGS

MOST_KINDS = 6
# How wet goods can be at all, in hundredths.
MOST_MOIST = 100


class Goods:
    """A kind of goods; there is none of it at first."""

    def __init__(self, price, wet, most):
        self.price = price
        self.wet = wet
        self.most = most
        self.stock = 0

    def paid_for(self, net, moist):
        if moist <= self.wet:
            return net
        return net * (100 - moist) // (100 - self.wet)

    def amount_for(self, paid):
        # The price is of a thousand; half a thousand more rounds to the nearest, half-way up.
        return (paid * self.price + 500) // 1000

    def room_left(self):
        return self.most - self.stock

    def stock_refusal(self, way, net):
        """Why so much can't be brought or fetched."""
        if way == BRINGS:
            return NO_ROOM if net > self.room_left() else FINE
        return NOT_SO_MUCH if self.stock < net else FINE

    def move(self, way, net):
        if way == BRINGS:
            self.stock = self.stock + net
        else:
            self.stock = self.stock - net
