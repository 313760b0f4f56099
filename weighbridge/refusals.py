"""The numbers that are answered in the place of a refused call."""

NONE_SUCH = -2
NOTHING_THERE = -6
NOT_BEGUN = -11
SHOWS_NOTHING = -12
FULL = -13
NOT_NOW = -16
ALREADY = -17
OUT_OF_RANGE = -22
TOO_MUCH = -28
NOT_SO_MUCH = -33
TOO_HEAVY = -40
NOTHING_NET = -44
NO_GOOD_TARE = -61
NO_ROOM = -75

# What a check answers that finds nothing to refuse.
FINE = 0
