"""What holds of whole lines: their form, and that what's refused, and looking, changes nothing."""

import functools
import random
import unittest
from fractions import Fraction
from math import floor

from tests.lines import NAMES, line_of, run
from weighbridge.scale import answers

LOOKING = ("show", "test", "allowed")


class Form(unittest.TestCase):

    def test_how_many_are_answered_then_these(self):
        self.assertEqual([1, 0, 2, 0, 0, 1, -6, 3, 1, 100, 0, 1, 1],
                         answers([0, 10, 3000, 3, 7, 6, 5, 8, 100, 9, 100]))

    def test_how_each_call_stands_in_the_list(self):
        line = [0, 10, 3000, 3, 7] + [1, 1250, 15, 20000] + [2, 9000, 20000] + [3, 0, 3] + [7]
        line += [4, 2, 9000, 1000] + [6] + [10, 0, 0, 0] + [5] + [4, 1, 4000] + [11, 0, 16] + [12, 0, 0, 0, 0]
        line += [5] + [4, 0] + [8, 500] + [9, 6000] + [4, 3, 4000, 0, 40] + [12, 0, 0, 1, 0] + [13, 0] + [14, 30]
        wanted = [1, 0] + [1, 0] + [1, 0] + [1, 0] + [2, 0, 3]
        wanted += [2, 0, 10000] + [2, 0, 10000] + [2, 0, 10000] + [2, 0, 0] + [2, 0, 4000]
        wanted += [3, 6000, 5929, 7411] + [1, -44]
        wanted += [2, 0, 0] + [1, -22] + [3, 1, 500, 0] + [1, 2] + [2, 0, 4040] + [4, 40, 40, 50, 1]
        wanted += [1, -17] + [1, 30]
        self.assertEqual(wanted, answers(line))

    def test_a_row_of_40(self):
        self.assertEqual([1, 0, 1, -22, 2, 0, 0], answers([0, 10, 3000, 3, 7, 4, 40] + [6] * 40 + [6]))

    def test_what_is_handed_in_is_as_it_was(self):
        for seed in range(20):
            line = line_of(random_calls(seed))
            before = list(line)
            answers(line)
            self.assertEqual(before, line)

    def test_what_is_given_back_is_the_callers_own(self):
        line = line_of(random_calls(1))
        first = answers(line)
        kept = list(first)
        first.clear()
        self.assertEqual(kept, answers(line))

    def test_a_second_time_is_as_the_first(self):
        lines = [line_of(random_calls(seed)) for seed in range(20)]
        first = [answers(line) for line in lines]
        self.assertEqual(first, [answers(line) for line in lines])
        self.assertEqual([1, -11], answers([6]))

    def test_whole_numbers_alone(self):
        for seed in range(20):
            given = answers(line_of(random_calls(seed)))
            self.assertIs(list, type(given))
            self.assertEqual({int}, {type(number) for number in given})

    def test_as_many_answers_as_the_words_tell(self):
        behind = {"on": 1, "off": 1, "show": 1, "zero": 1, "test": 2, "arrive": 1, "leave": 2, "quick": 3}
        for seed in range(60):
            calls = random_calls(seed)
            got = run(calls)
            self.assertEqual(len(calls), len(got))
            for call, answer in zip(calls, got):
                wanted = 1 if answer[0] < 0 else 1 + behind.get(call[0], 0)
                self.assertEqual(wanted, len(answer), call)


def mostly(rng, usual, rare):
    return rng.choice(rare if rng.random() < 0.1 else usual)


def random_axles(rng):
    return [mostly(rng, (10, 995, 2000, 3005, 6001, 9000), (0, 4, 50000, 50001))
            for axle in range(mostly(rng, (1, 2, 2, 3), (0, 7)))]


def random_call(rng, tickets):
    """Some call, where so many tickets are there already."""
    name = rng.choice(("kind", "lorry", "drift", "zero", "test", "allowed", "days", "cancel", "show")
                      + ("on", "off", "arrive", "leave", "leave", "quick", "quick"))
    lorry = mostly(rng, (0, 1), (2, 3, 12))
    kind = mostly(rng, (0, 0, 0, 1), (2, 6))
    way = mostly(rng, (0, 0, 1), (2,))
    moist = mostly(rng, (0, 15, 16, 50, 100), (101,))
    ticket = mostly(rng, range(max(tickets - 3, 0), tickets + 1), (0, 60))
    given = {
        "kind": (mostly(rng, (1, 1250), (0,)), mostly(rng, (0, 15), (51,)), rng.choice((0, 5000, 60000))),
        "lorry": (mostly(rng, (6000, 9000), (0,)), mostly(rng, (9000, 40000), (0,))),
        "drift": (mostly(rng, (-20, -1, 0, 0, 3, 20), (-21,)), mostly(rng, (-5, 0, 0, 15, 400), (-2001, -500))),
        "on": (random_axles(rng),),
        "test": (rng.choice((0, 1, 5000, 5001, 30000, 30001)),),
        "allowed": (rng.choice((0, 5000, 5001, 20001)),),
        "arrive": (lorry, kind, way),
        "leave": (ticket, moist),
        "quick": (lorry, kind, way, moist),
        "cancel": (ticket,),
        "days": (mostly(rng, (1, 2, 5), (0, 401)),),
    }
    return (name,) + given.get(name, ())


def trip(rng, tickets):
    """A lorry that comes and goes, more often than not as it should."""
    lorry, kind, way = rng.choice((0, 1)), rng.choice((0, 0, 1)), rng.choice((0, 0, 1))
    full, light = [("on", [6001, 2000, rng.choice((5, 900))])], [("on", [rng.choice((2000, 3005))])]
    first, second = (full, light) if way == 0 else (light, full)
    coming = [("off",)] + first + [("arrive", lorry, kind, way), ("off",)]
    going = [("leave", tickets, rng.choice((0, 16))), ("cancel", tickets), ("quick", lorry, kind, 0, 16), ("off",)]
    return coming + second + going + first + [("quick", lorry, kind, rng.choice((0, 1)), rng.choice((0, 16)))]


def tickets_after(calls):
    return sum(call[0] in ("arrive", "quick") and answer[0] >= 0 for call, answer in zip(calls, run(calls)))


@functools.lru_cache(maxsize=None)
def random_line(seed):
    rng = random.Random(seed)
    calls = [random_call(rng, 0) for number in range(rng.choice((0, 3)))]
    calls += [("begin", rng.choice((3, 7, 10)), rng.choice((3000, 5000)), rng.choice((1, 3)), rng.choice((0, 7)))]
    calls += [("kind", 1250, 15, 30000), ("kind", 90, 0, 9000), ("lorry", 9000, 20000), ("lorry", 20000, 9000)]
    while len(calls) < 256:
        tickets = tickets_after(calls)
        calls += trip(rng, tickets) if rng.random() < 0.5 else [random_call(rng, tickets) for number in range(6)]
    return tuple(calls[:256])


def random_calls(seed):
    return list(random_line(seed))


class NothingChanges(unittest.TestCase):

    def test_the_lines_reach_every_call_both_ways(self):
        seen = set()
        for seed in range(60):
            calls = random_calls(seed) + [("begin", 0, 0, 0, 0)]
            seen |= {(call[0], answer[0] < 0) for call, answer in zip(calls, run(calls))}
        self.assertEqual({(name, refused) for name in NAMES for refused in (False, True)} - {("allowed", True)},
                         seen - {("allowed", True)})

    def check_without(self, left_out):
        for seed in range(60):
            calls = random_calls(seed)
            pairs = list(zip(calls, run(calls)))
            kept = [pair for pair in pairs if not left_out(pair)]
            self.assertEqual([pair[1] for pair in kept], run([pair[0] for pair in kept]), seed)

    def test_refused_calls_change_nothing(self):
        self.check_without(lambda pair: pair[1][0] < 0)

    def test_looking_changes_nothing(self):
        self.check_without(lambda pair: pair[0][0] in LOOKING)

    def test_a_begin_makes_everything_new(self):
        for seed in range(40):
            after = [("begin", 10, 3000, 3, 7)] + random_calls(seed + 1000)[:120]
            got = run(random_calls(seed)[:100] + after)
            self.assertEqual(run(after), got[100:])


class Ledger:
    """What can be told of a yard by what was answered, kept apart from the program."""

    def __init__(self, step, steps, room, good):
        self.step, self.steps, self.room, self.good = step, steps, room, good
        self.gain = self.offset = self.zero = self.day = 0
        self.axles, self.kinds, self.lorries, self.tickets, self.stock = [], [], [], [], []

    def shown(self):
        felt = floor(Fraction(sum(self.axles) * (1000 + self.gain), 1000)) + self.offset - self.zero
        return floor(Fraction(felt, self.step) + Fraction(1, 2)) * self.step

    def there(self):
        return [ticket["lorry"] for ticket in self.tickets if ticket["on yard"]]

    def too_heavy(self, lorry):
        return self.shown() > lorry["gross"] or any(axle > lorry["axle"] for axle in self.axles)


class WhatHolds(unittest.TestCase):

    def test_of_lines(self):
        done = 0
        for seed in range(100):
            calls = random_calls(seed)
            self.ledger = None
            for call, answer in zip(calls, run(calls)):
                if call[0] == "begin":
                    self.ledger = Ledger(*call[1:])
                elif answer[0] >= 0:
                    getattr(self, "after_" + call[0], lambda *rest: None)(answer, *call[1:])
            done += sum(not ticket["on yard"] for ticket in self.ledger.tickets)
        self.assertGreater(done, 1000)

    def after_kind(self, answer, price, wet, most):
        self.ledger.kinds.append({"price": price, "wet": wet, "most": most})
        self.ledger.stock.append(0)

    def after_lorry(self, answer, axle, gross):
        self.ledger.lorries.append({"axle": axle, "gross": gross, "tare": None, "day": None})

    def after_drift(self, answer, gain, offset):
        self.ledger.gain, self.ledger.offset = gain, offset

    def after_zero(self, answer):
        self.assertEqual(self.ledger.offset - self.ledger.zero, answer[1])
        self.ledger.zero = self.ledger.offset
        self.assertEqual(0, self.ledger.shown())

    def after_on(self, answer, axles):
        self.assertEqual([], self.ledger.axles)
        self.ledger.axles = axles
        self.assertEqual(self.ledger.shown(), answer[1])

    def after_off(self, answer):
        self.ledger.axles = []
        self.assertEqual(self.ledger.shown(), answer[1])

    def after_show(self, answer):
        self.assertEqual(self.ledger.shown(), answer[1])

    def after_days(self, answer, days):
        self.ledger.day += days
        self.assertEqual(self.ledger.day, answer[0])

    def after_arrive(self, answer, lorry, kind, way):
        self.assertNotIn(lorry, self.ledger.there())
        self.assertEqual([len(self.ledger.tickets), self.ledger.shown()], answer)
        self.ledger.tickets.append({"lorry": lorry, "kind": kind, "way": way, "first": answer[1], "on yard": True})
        self.assertLessEqual(len(self.ledger.there()), self.ledger.room)

    def after_cancel(self, answer, number):
        ticket = self.ledger.tickets[number]
        self.assertTrue(ticket["on yard"])
        self.assertEqual([ticket["first"]], answer)
        ticket["on yard"] = False

    def after_leave(self, answer, number, moist):
        ticket = self.ledger.tickets[number]
        self.assertTrue(ticket["on yard"])
        ticket["on yard"] = False
        lorry = self.ledger.lorries[ticket["lorry"]]
        self.assertFalse(self.ledger.too_heavy(lorry))
        between = ticket["first"] - self.ledger.shown()
        self.assertEqual(between if ticket["way"] == 0 else -between, answer[0])
        lorry["tare"], lorry["day"] = min(ticket["first"], self.ledger.shown()), self.ledger.day
        self.check_money(answer, ticket["kind"], ticket["way"], moist)

    def after_quick(self, answer, lorry, kind, way, moist):
        self.assertNotIn(lorry, self.ledger.there())
        its = self.ledger.lorries[lorry]
        self.assertLessEqual(self.ledger.day, its["day"] + self.ledger.good)
        self.assertFalse(way == 1 and self.ledger.too_heavy(its))
        self.assertEqual(self.ledger.shown() - its["tare"], answer[0])
        self.assertEqual(len(self.ledger.tickets), answer[3])
        self.ledger.tickets.append({"lorry": lorry, "on yard": False})
        self.check_money(answer, kind, way, moist)

    def check_money(self, answer, kind, way, moist):
        goods = self.ledger.kinds[kind]
        self.assertGreater(answer[0], 0)
        self.ledger.stock[kind] += answer[0] if way == 0 else -answer[0]
        self.assertTrue(0 <= self.ledger.stock[kind] <= goods["most"])
        part = Fraction(100 - max(moist, goods["wet"]), 100 - goods["wet"])
        self.assertEqual(floor(answer[0] * part), answer[1])
        self.assertEqual(floor(Fraction(answer[1] * goods["price"], 1000) + Fraction(1, 2)), answer[2])


if __name__ == "__main__":
    unittest.main()
