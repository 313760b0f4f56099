"""The yard: the scale, the goods, the lorries and the tickets of one begin."""

from weighbridge.tickets import MOST_TICKETS, ON_YARD


class Yard:
    """A yard on day 0, with nothing but its scale."""

    def __init__(self, plate, room, good):
        self.plate = plate
        self.room = room
        self.good = good
        self.day = 0
        self.kinds = []
        self.lorries = []
        self.tickets = []

    def has_kind(self, number):
        return number < len(self.kinds)

    def has_lorry(self, number):
        return number < len(self.lorries)

    def has_ticket(self, number):
        return number < len(self.tickets)

    def tickets_in(self, state):
        """The numbers of the tickets that are in such a state."""
        return [number for number, ticket in enumerate(self.tickets) if ticket.state == state]

    def lorries_there(self):
        """The numbers of the lorries that are on the yard."""
        return [self.tickets[number].lorry for number in self.tickets_in(ON_YARD)]

    def is_full(self):
        return len(self.lorries_there()) >= self.room

    def is_out_of_tickets(self):
        return len(self.tickets) >= MOST_TICKETS
