"""Tickets: one lorry's weighing, with goods of one kind that it brings or fetches."""

BRINGS = 0
FETCHES = 1

ON_YARD = 0
DONE = 1
CALLED_OFF = 2

MOST_TICKETS = 60


class Ticket:
    """A ticket on the yard, with its first weight alone."""

    def __init__(self, lorry, kind, way, first):
        self.lorry = lorry
        self.kind = kind
        self.way = way
        self.first = first
        self.second = 0
        self.net = 0
        self.paid = 0
        self.amount = 0
        self.state = ON_YARD

    def net_with(self, second):
        """What lies between the first weight and this second one; 0 if it went the wrong way."""
        if self.way == BRINGS:
            return max(self.first - second, 0)
        return max(second - self.first, 0)
