"""The yard: the scale, the goods, the lorries and the tickets of one begin."""

from weighbridge.tickets import MOST_TICKETS, ON_YARD


class Yard:
    """A yard on day 0, with nothing but its scale."""

    def __init__(self, plate, room, good):
        self.plate = plate
        self.room = room
        self.good = good
        self.day = 0
        self.kinds = []
        self.lorries = []
        self.tickets = []

    def has_kind(self, number):
        return number < len(self.kinds)

    def has_lorry(self, number):
        return number < len(self.lorries)

    def has_ticket(self, number):
        return number < len(self.tickets)

    def lorries_there(self):
        """The numbers of the lorries that are on the yard."""
        return [ticket.lorry for ticket in self.tickets if ticket.state == ON_YARD]

    def is_full(self):
        return len(self.lorries_there()) >= self.room

    def is_out_of_tickets(self):
        return len(self.tickets) >= MOST_TICKETS
