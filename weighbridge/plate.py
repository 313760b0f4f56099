"""The plate of the scale: what stands on it, its errors, and what it feels and shows."""

from weighbridge.refusals import FINE, NOTHING_THERE, SHOWS_NOTHING, TOO_MUCH

STEPS_ABOVE = 9
FINE_STEPS = 500
MIDDLE_STEPS = 2000


class Plate:
    """A scale of so many steps; without axles nothing stands on it."""

    def __init__(self, step, steps):
        self.step = step
        self.capacity = step * steps
        self.gain = 0
        self.offset = 0
        self.zero = 0
        self.axles = []

    def is_empty(self):
        # A load of 0 is a load: the axles tell, not their weight.
        return len(self.axles) == 0

    def load(self):
        return sum(self.axles)

    def feels(self, weight):
        return weight * (1000 + self.gain) // 1000 + self.offset - self.zero

    def shows(self, weight):
        # Half a step is added before rounding down, so that half-way goes up below 0 too.
        return (2 * self.feels(weight) + self.step) // (2 * self.step) * self.step

    def reading(self):
        return self.shows(self.load())

    def wrong_with(self, weight):
        return self.feels(weight) - weight

    def halves_allowed(self, weight):
        """How many halves of a step may be wrong with a weight."""
        if weight <= FINE_STEPS * self.step:
            return 1
        if weight <= MIDDLE_STEPS * self.step:
            return 2
        return 3

    def may_be_wrong(self, weight):
        return 2 * abs(self.wrong_with(weight)) <= self.halves_allowed(weight) * self.step

    def shows_too_much(self):
        return self.reading() > self.capacity + STEPS_ABOVE * self.step

    def weighing_refusal(self):
        """Why nothing can be weighed now."""
        if self.is_empty():
            return NOTHING_THERE
        if self.shows_too_much():
            return TOO_MUCH
        if self.reading() <= 0:
            return SHOWS_NOTHING
        return FINE
