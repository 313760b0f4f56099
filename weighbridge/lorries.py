"""Lorries: how heavy they may be, and their tares."""

MOST_LORRIES = 12
TARES_KEPT = 2
# Two tares are alike as long as they differ by no more than these hundredths of the one before.
ALIKE_HUNDREDTHS = 2


class Lorry:
    """A lorry, without tares at first."""

    def __init__(self, axle_most, gross_most):
        self.axle_most = axle_most
        self.gross_most = gross_most
        self.tares = []
        self.tare_day = 0

    def take_tare(self, weight, day):
        tares = self.tares + [weight]
        self.tares = tares[-TARES_KEPT:]
        self.tare_day = day

    def last_tare(self):
        return self.tares[-1]

    def has_tare(self):
        return len(self.tares) > 0

    def tare_age(self, day):
        return day - self.tare_day

    def has_good_tare(self, day, good):
        return self.has_tare() and self.tare_age(day) <= good

    def has_two_tares(self):
        return len(self.tares) == TARES_KEPT

    def tare_change(self):
        return self.tares[1] - self.tares[0]

    def has_odd_tare(self):
        return abs(self.tare_change()) * 100 > ALIKE_HUNDREDTHS * self.tares[0]

    def gross_above(self, weight):
        return max(weight - self.gross_most, 0)

    def axle_above(self, axles):
        return max(max(axles) - self.axle_most, 0)

    def is_too_heavy(self, weight, axles):
        # The axles are told as they really are; the weight is what the scale shows.
        return self.gross_above(weight) > 0 or self.axle_above(axles) > 0

    def gross_left(self, weight):
        return max(self.gross_most - weight, 0)
