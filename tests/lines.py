"""Calls as the tests write them, and answers as the tests read them."""

import functools
import random
import unittest

from weighbridge.scale import answers

NAMES = ("begin", "kind", "lorry", "drift", "on", "off", "show", "zero", "test", "allowed",
         "arrive", "leave", "quick", "cancel", "days", "tare", "odd", "excess", "fits", "dry", "yard", "look",
         "stock", "enough", "totals", "trips", "money", "heaviest", "sums", "state")
# The calls of points 6 and 7, and those that only look before these.
TELLING = NAMES[15:]
LOOKING = ("show", "test", "allowed") + TELLING
BIG = 4294967295


def written(call):
    """A call such as ("arrive", 0, 0, 1) or ("on", [900, 50]) as the numbers of a line."""
    number = NAMES.index(call[0])
    if call[0] == "on":
        return [number, len(call[1])] + list(call[1])
    return [number] + list(call[1:])


def line_of(calls):
    return [number for call in calls for number in written(call)]


def parted(flat):
    """The answers of each call by themselves."""
    parts = []
    at = 0
    while at < len(flat):
        parts.append(flat[at + 1:at + 1 + flat[at]])
        at += 1 + flat[at]
    return parts


def run(calls):
    return parted(answers(line_of(calls)))


# A step that takes the load off a scale that shows 0 then.
EMPTY = (("off",), [0, 0])


def weighed(axles, shown):
    """A step that puts a load on the empty scale."""
    return (("on", axles), [0, shown])


def trip(ticket, lorry, kind, way, first, second, moist=0):
    """Calls of a lorry that comes onto the empty scale with one weight, and leaves with another."""
    return [("on", [first]), ("arrive", lorry, kind, way), ("off",), ("on", [second]), ("leave", ticket, moist),
            ("off",)]


class LineCase(unittest.TestCase):

    # What most tests begin with: a step of 10 up to 30,000, three on the yard, tares good for 7 days.
    start = [("begin", 10, 3000, 3, 7)]

    def check(self, *steps):
        """Each step is a call and what it answers; they stand behind what the class starts with."""
        self.check_after([], *steps)

    def check_after(self, ahead, *steps):
        """As check, with calls ahead of the steps of which nothing is refused."""
        calls = self.start + ahead + [step[0] for step in steps]
        got = run(calls)
        self.assertEqual(len(calls), len(got))
        before = len(calls) - len(steps)
        for place in range(before):
            self.assertGreaterEqual(got[place][0], 0, f"call {place} ahead: {calls[place]}")
        for place, (call, wanted) in enumerate(steps):
            self.assertEqual(wanted, got[before + place], f"call {place}: {call}")


def mostly(rng, usual, rare):
    return rng.choice(rare if rng.random() < 0.1 else usual)


def random_axles(rng):
    return [mostly(rng, (10, 995, 2000, 3005, 6001, 9000), (0, 4, 50000, 50001))
            for axle in range(mostly(rng, (1, 2, 2, 3), (0, 7)))]


def random_lorry(rng):
    return mostly(rng, (0, 1, 2), (3, 4, 12))


def random_kind(rng):
    return mostly(rng, (0, 0, 0, 1), (2, 6))


def random_ticket(rng, tickets):
    return mostly(rng, range(max(tickets - 3, 0), tickets + 1), (0, 60))


def random_look(rng, tickets):
    """Some call of points 6 and 7."""
    name = rng.choice(TELLING)
    lorry, kind, ticket = (random_lorry(rng),), (random_kind(rng),), (random_ticket(rng, tickets),)
    net = (mostly(rng, (0, 1, 999, 1000000), (1000001,)),)
    given = {
        "tare": lorry, "odd": lorry, "excess": lorry, "fits": lorry, "trips": lorry,
        "dry": kind + net + (mostly(rng, (0, 15, 16, 100), (101,)),),
        "look": ticket, "stock": kind, "enough": kind + (rng.choice((0, 1, 5000, 20000)),), "totals": kind,
    }
    return (name,) + given.get(name, ())


def random_call(rng, tickets):
    """Some call, where so many tickets are there already."""
    name = rng.choice(("kind", "lorry", "drift", "zero", "test", "allowed", "days", "cancel", "show")
                      + ("on", "off", "arrive", "leave", "leave", "quick", "quick"))
    lorry = random_lorry(rng)
    kind = random_kind(rng)
    way = mostly(rng, (0, 0, 1), (2,))
    moist = mostly(rng, (0, 15, 16, 50, 100), (101,))
    ticket = random_ticket(rng, tickets)
    given = {
        "kind": (mostly(rng, (1, 1250), (0,)), mostly(rng, (0, 15), (51,)), rng.choice((0, 5000, 60000))),
        "lorry": (mostly(rng, (6000, 9000), (0,)), mostly(rng, (9000, 40000), (0,))),
        "drift": (mostly(rng, (-20, -1, 0, 0, 3, 20), (-21,)), mostly(rng, (-5, 0, 0, 15, 400), (-2001, -500))),
        "on": (random_axles(rng),),
        "test": (rng.choice((0, 1, 5000, 5001, 30000, 30001)),),
        "allowed": (rng.choice((0, 5000, 5001, 20001)),),
        "arrive": (lorry, kind, way),
        "leave": (ticket, moist),
        "quick": (lorry, kind, way, moist),
        "cancel": (ticket,),
        "days": (mostly(rng, (1, 2, 5), (0, 401)),),
    }
    return (name,) + given.get(name, ())


def random_trip(rng, tickets):
    """A lorry that comes and goes, more often than not as it should."""
    lorry, kind, way = rng.choice((0, 1, 2)), rng.choice((0, 0, 1)), rng.choice((0, 0, 1))
    full, light = [("on", [6001, 2000, rng.choice((5, 900))])], [("on", [rng.choice((2000, 2040, 3005))])]
    first, second = (full, light) if way == 0 else (light, full)
    coming = [("off",)] + first + [("arrive", lorry, kind, way), ("off",)]
    going = [("leave", tickets, rng.choice((0, 16)))] + ([("cancel", tickets)] if rng.random() < 0.8 else [])
    going += [("quick", lorry, kind, 0, 16), ("off",)]
    return coming + second + going + first + [("quick", lorry, kind, rng.choice((0, 1)), rng.choice((0, 16)))]


def tickets_after(calls):
    return sum(call[0] in ("arrive", "quick") and answer[0] >= 0 for call, answer in zip(calls, run(calls)))


def some_calls(rng, tickets):
    calls = random_trip(rng, tickets) if rng.random() < 0.5 else [random_call(rng, tickets) for number in range(6)]
    return calls + [random_look(rng, tickets) for number in range(3)]


@functools.lru_cache(maxsize=None)
def random_line(seed):
    rng = random.Random(seed)
    calls = [rng.choice((random_call, random_look))(rng, 0) for number in range(rng.choice((0, 5)))]
    calls += [("begin", rng.choice((3, 7, 10)), rng.choice((3000, 5000)), rng.choice((1, 3)), rng.choice((0, 7)))]
    calls += [("kind", 1250, 15, 30000), ("kind", 90, 0, 9000)]
    calls += [("lorry", 9000, 20000), ("lorry", 20000, 9000), ("lorry", 9000, 9000)]
    while len(calls) < 256:
        calls += some_calls(rng, tickets_after(calls))
    return tuple(calls[:256])


def random_calls(seed):
    return list(random_line(seed))
