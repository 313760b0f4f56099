"""Lorries: how heavy they may be, and their tares."""

MOST_LORRIES = 12
TARES_KEPT = 2


class Lorry:
    """A lorry, without tares at first."""

    def __init__(self, axle_most, gross_most):
        self.axle_most = axle_most
        self.gross_most = gross_most
        self.tares = []
        self.tare_day = 0

    def take_tare(self, weight, day):
        tares = self.tares + [weight]
        self.tares = tares[-TARES_KEPT:]
        self.tare_day = day

    def last_tare(self):
        return self.tares[-1]

    def has_good_tare(self, day, good):
        return len(self.tares) > 0 and day - self.tare_day <= good

    def is_too_heavy(self, weight, axles):
        # The axles are told as they really are; the weight is what the scale shows.
        return weight > self.gross_most or max(axles) > self.axle_most
