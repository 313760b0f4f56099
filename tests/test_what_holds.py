"""What the letters a to f say of all calls together, over whole lines."""

import unittest
from fractions import Fraction
from math import floor

from tests.lines import TELLING, random_calls, run


class Ledger:
    """What can be told of a yard by what was answered, kept apart from the program."""

    def __init__(self, step, steps, room, good):
        self.step, self.steps, self.room, self.good = step, steps, room, good
        self.gain = self.offset = self.zero = self.day = 0
        self.axles, self.kinds, self.lorries, self.tickets = [], [], [], []

    def shown(self):
        felt = floor(Fraction(sum(self.axles) * (1000 + self.gain), 1000)) + self.offset - self.zero
        return floor(Fraction(felt, self.step) + Fraction(1, 2)) * self.step

    def there(self):
        return [ticket["lorry"] for ticket in self.tickets if ticket["state"] == 0]

    def done(self, **wanted):
        return [number for number, ticket in enumerate(self.tickets)
                if ticket["state"] == 1 and all(ticket[name] == value for name, value in wanted.items())]

    def together(self, name, **wanted):
        return sum(self.tickets[number][name] for number in self.done(**wanted))

    def stock(self, kind):
        return self.together("net", kind=kind, way=0) - self.together("net", kind=kind, way=1)

    def too_heavy(self, lorry):
        return self.shown() > lorry["gross"] or any(axle > lorry["axle"] for axle in self.axles)

    def paid(self, kind, net, moist):
        goods = self.kinds[kind]
        paid = floor(net * Fraction(100 - max(moist, goods["wet"]), 100 - goods["wet"]))
        return [paid, floor(Fraction(paid * goods["price"], 1000) + Fraction(1, 2))]


class Told:
    """What points 6 and 7 tell of a ledger."""

    def __init__(self, ledger):
        self.ledger = ledger

    def unweighed(self):
        if not self.ledger.axles:
            return -6
        if self.ledger.shown() > self.ledger.step * (self.ledger.steps + 9):
            return -28
        return -12 if self.ledger.shown() <= 0 else 0

    def of(self, name, *given):
        """What a call tells; -2 ahead of all where there's no such lorry, kind or ticket."""
        if name in ("tare", "odd", "excess", "fits", "trips") and given[0] >= len(self.ledger.lorries):
            return [-2]
        if name in ("dry", "stock", "enough", "totals") and given[0] >= len(self.ledger.kinds):
            return [-2]
        if name == "look" and given[0] >= len(self.ledger.tickets):
            return [-2]
        if name in ("excess", "fits") and self.unweighed() != 0:
            return [self.unweighed()]
        return getattr(self, name)(*given)

    def tare(self, number):
        tares = self.ledger.lorries[number]["tares"]
        if not tares:
            return [-6]
        ago = self.ledger.day - tares[-1][1]
        return [tares[-1][0], ago, int(ago <= self.ledger.good)]

    def odd(self, number):
        tares = self.ledger.lorries[number]["tares"]
        if len(tares) < 2:
            return [-6]
        change = tares[-1][0] - tares[-2][0]
        return [int(abs(change) > tares[-2][0] * Fraction(2, 100)), change]

    def excess(self, number):
        lorry = self.ledger.lorries[number]
        above = [self.ledger.shown() - lorry["gross"], max(self.ledger.axles) - lorry["axle"]]
        return [int(not self.ledger.too_heavy(lorry))] + [max(number, 0) for number in above]

    def fits(self, number):
        return [max(self.ledger.lorries[number]["gross"] - self.ledger.shown(), 0)]

    def dry(self, kind, net, moist):
        return [-22] if net > 1000000 or moist > 100 else self.ledger.paid(kind, net, moist)

    def yard(self):
        there = [number for number, ticket in enumerate(self.ledger.tickets) if ticket["state"] == 0]
        return [len(there)] + there

    def look(self, number):
        names = ("state", "lorry", "kind", "way", "first", "second", "net", "paid", "amount")
        return [self.ledger.tickets[number][name] for name in names]

    def stock(self, kind):
        return [self.ledger.stock(kind), self.ledger.kinds[kind]["most"] - self.ledger.stock(kind)]

    def enough(self, kind, wanted):
        return [int(self.ledger.stock(kind) >= wanted)]

    def totals(self, kind):
        sums = [self.ledger.together("net", kind=kind, way=way) for way in (0, 1)]
        return [0] + sums + [len(self.ledger.done(kind=kind, way=way)) for way in (0, 1)]

    def trips(self, number):
        return [len(self.ledger.done(lorry=number))] + self.ledger.done(lorry=number)

    def money(self):
        return [0, self.ledger.together("amount", way=0), self.ledger.together("amount", way=1)]

    def heaviest(self):
        nets = [(-self.ledger.tickets[number]["net"], number) for number in self.ledger.done()]
        return [min(nets)[1], -min(nets)[0]] if nets else [-6]

    def sums(self):
        stock = sum(self.ledger.stock(kind) for kind in range(len(self.ledger.kinds)))
        return [0, stock, len(self.ledger.done()), sum(ticket["state"] == 2 for ticket in self.ledger.tickets)]

    def state(self):
        sizes = [len(self.ledger.kinds), len(self.ledger.lorries), len(self.ledger.tickets), len(self.ledger.there())]
        return [0, self.ledger.day] + sizes + [sum(self.ledger.axles), self.ledger.zero]


class ByTheLedger(unittest.TestCase):

    def test_of_lines(self):
        done = 0
        told = {}
        for seed in range(150):
            calls = random_calls(seed)
            self.ledger = None
            for call, answer in zip(calls, run(calls)):
                if call[0] == "begin":
                    self.ledger = Ledger(*call[1:])
                elif self.ledger is None:
                    self.assertEqual([-11], answer)
                elif call[0] in TELLING:
                    self.assertEqual(Told(self.ledger).of(*call), answer, call)
                    told.setdefault(call[0], set()).add(tuple(answer))
                elif answer[0] >= 0:
                    getattr(self, "after_" + call[0], lambda *rest: None)(answer, *call[1:])
            done += len(self.ledger.done())
        self.assertGreater(done, 1000)
        self.assertEqual(set(TELLING), set(told))
        # Lines that always tell the same would try nothing.
        self.assertEqual([], [name for name in told if name != "enough" and len(told[name]) < 10])

    def after_kind(self, answer, price, wet, most):
        self.ledger.kinds.append({"price": price, "wet": wet, "most": most})

    def after_lorry(self, answer, axle, gross):
        self.ledger.lorries.append({"axle": axle, "gross": gross, "tares": []})

    def after_drift(self, answer, gain, offset):
        self.ledger.gain, self.ledger.offset = gain, offset

    def after_zero(self, answer):
        self.assertEqual(self.ledger.offset - self.ledger.zero, answer[1])
        self.ledger.zero = self.ledger.offset
        self.assertEqual(0, self.ledger.shown())

    def after_on(self, answer, axles):
        self.assertEqual([], self.ledger.axles)
        self.ledger.axles = axles
        self.assertEqual(self.ledger.shown(), answer[1])

    def after_off(self, answer):
        self.ledger.axles = []
        self.assertEqual(self.ledger.shown(), answer[1])

    def after_show(self, answer):
        self.assertEqual(self.ledger.shown(), answer[1])

    def after_days(self, answer, days):
        self.ledger.day += days
        self.assertEqual(self.ledger.day, answer[0])

    def new_ticket(self, lorry, kind, way, first):
        self.assertNotIn(lorry, self.ledger.there())
        self.ledger.tickets.append({"state": 0, "lorry": lorry, "kind": kind, "way": way, "first": first, "second": 0,
                                    "net": 0, "paid": 0, "amount": 0})

    def after_arrive(self, answer, lorry, kind, way):
        self.assertEqual([len(self.ledger.tickets), self.ledger.shown()], answer)
        self.new_ticket(lorry, kind, way, answer[1])
        self.assertLessEqual(len(self.ledger.there()), self.ledger.room)

    def after_cancel(self, answer, number):
        ticket = self.ledger.tickets[number]
        self.assertEqual(0, ticket["state"])
        self.assertEqual([ticket["first"]], answer)
        ticket["state"] = 2

    def after_leave(self, answer, number, moist):
        ticket = self.ledger.tickets[number]
        self.assertEqual(0, ticket["state"])
        lorry = self.ledger.lorries[ticket["lorry"]]
        self.assertFalse(self.ledger.too_heavy(lorry))
        between = ticket["first"] - self.ledger.shown()
        self.assertEqual(between if ticket["way"] == 0 else -between, answer[0])
        lorry["tares"].append((min(ticket["first"], self.ledger.shown()), self.ledger.day))
        self.settled(answer, ticket, moist)

    def after_quick(self, answer, lorry, kind, way, moist):
        its = self.ledger.lorries[lorry]
        self.assertLessEqual(self.ledger.day, its["tares"][-1][1] + self.ledger.good)
        self.assertFalse(way == 1 and self.ledger.too_heavy(its))
        self.assertEqual(self.ledger.shown() - its["tares"][-1][0], answer[0])
        self.assertEqual(len(self.ledger.tickets), answer[3])
        self.new_ticket(lorry, kind, way, its["tares"][-1][0])
        self.settled(answer, self.ledger.tickets[-1], moist)

    def settled(self, answer, ticket, moist):
        kind = ticket["kind"]
        self.assertGreater(answer[0], 0)
        self.assertEqual(self.ledger.paid(kind, answer[0], moist), answer[1:3])
        ticket.update({"state": 1, "second": self.ledger.shown(), "net": answer[0], "paid": answer[1],
                       "amount": answer[2]})
        self.assertTrue(0 <= self.ledger.stock(kind) <= self.ledger.kinds[kind]["most"])


class ByWhatIsTold(unittest.TestCase):
    """What holds of a line's end, by nothing but the calls that tell."""

    def ends(self):
        """Of many lines, cut short, the calls so far and a way to ask what is told at their end."""
        for seed in range(60):
            for cut in (60, 110, 150):
                ahead = random_calls(seed)[:cut]
                yield ahead, lambda looks: run(ahead + looks)[len(ahead):]

    def sizes(self, told):
        """How many kinds, lorries and tickets there are."""
        return told([("state",)])[0][2:5]

    def tickets(self, told):
        return told([("look", number) for number in range(self.sizes(told)[2])])

    def test_stock_is_what_came_less_what_went(self):
        moved = 0
        for ahead, told in self.ends():
            kinds = range(self.sizes(told)[0])
            stocks = told([("stock", kind) for kind in kinds])
            totals = told([("totals", kind) for kind in kinds])
            for kind in kinds:
                done = [look for look in self.tickets(told) if look[0] == 1 and look[2] == kind]
                nets = [[look[6] for look in done if look[3] == way] for way in (0, 1)]
                self.assertEqual([0, sum(nets[0]), sum(nets[1]), len(nets[0]), len(nets[1])], totals[kind])
                self.assertEqual(totals[kind][1] - totals[kind][2], stocks[kind][0])
                self.assertGreaterEqual(min(stocks[kind]), 0)
                moved += len(nets[1])
            self.assertEqual([0, sum(stock[0] for stock in stocks)], told([("sums",)])[0][:2])
        self.assertGreater(moved, 100)

    def test_nobody_is_on_the_yard_twice_nor_more_than_it_holds(self):
        most = 0
        for ahead, told in self.ends():
            room = [call[3] for call in ahead if call[0] == "begin"][-1]
            there = told([("yard",)])[0]
            self.assertEqual(len(there) - 1, there[0])
            self.assertLessEqual(there[0], room)
            looks = told([("look", number) for number in there[1:]])
            self.assertEqual({0}, {look[0] for look in looks} | {0})
            self.assertEqual(there[0], len({look[1] for look in looks}))
            self.assertEqual(there[0], sum(look[0] == 0 for look in self.tickets(told)))
            most = max(most, there[0])
        self.assertEqual(3, most)

    def test_a_net_is_what_lies_between_the_weights_and_something(self):
        for ahead, told in self.ends():
            quick = [answer[3] for call, answer in zip(ahead, run(ahead)) if call[0] == "quick" and answer[0] > 0]
            for number, look in enumerate(self.tickets(told)):
                state, lorry, kind, way, first, second, net, paid, amount = look
                if state == 1:
                    lost = first - second if way == 0 and number not in quick else second - first
                    self.assertEqual(lost, net)
                    self.assertGreater(net, 0)
                    self.assertTrue(0 <= paid <= net)
                else:
                    self.assertEqual([0, 0, 0, 0], [second, net, paid, amount])
                self.assertGreater(first, 0)

    def test_money_is_by_what_is_paid_for(self):
        for ahead, told in self.ends():
            looks = self.tickets(told)
            for look in looks:
                # Goods that are as dry as can be are paid whole, so this asks for the amount alone.
                self.assertEqual([look[7], look[8]], told([("dry", look[2], look[7], 0)])[0])
            sums = [sum(look[8] for look in looks if look[3] == way) for way in (0, 1)]
            self.assertEqual([0] + sums, told([("money",)])[0])

    def test_a_tare_is_the_lesser_of_two_weights(self):
        seen = 0
        for ahead, told in self.ends():
            left = [call[1] for call, answer in zip(ahead, run(ahead)) if call[0] == "leave" and answer[0] > 0]
            looks = self.tickets(told)
            for lorry in range(self.sizes(told)[1]):
                tares = [min(looks[number][4:6]) for number in left if looks[number][1] == lorry]
                answer = told([("tare", lorry)])[0]
                self.assertEqual(tares[-1:] or [-6], answer[:1])
                seen += len(tares) > 1
                change = told([("odd", lorry)])[0]
                self.assertEqual([tares[-1] - tares[-2]] if len(tares) > 1 else [-6], change[-1:])
        self.assertGreater(seen, 50)

    def test_trips_and_sums_and_the_heaviest_are_by_the_tickets(self):
        for ahead, told in self.ends():
            looks = self.tickets(told)
            done = [number for number, look in enumerate(looks) if look[0] == 1]
            for lorry in range(self.sizes(told)[1]):
                its = [number for number in done if looks[number][1] == lorry]
                self.assertEqual([len(its)] + its, told([("trips", lorry)])[0])
            self.assertEqual([len(done), sum(look[0] == 2 for look in looks)], told([("sums",)])[0][2:])
            nets = [looks[number][6] for number in done]
            wanted = [done[nets.index(max(nets))], max(nets)] if nets else [-6]
            self.assertEqual(wanted, told([("heaviest",)])[0])

    def test_what_is_enough_is_what_is_there(self):
        for ahead, told in self.ends():
            for kind in range(self.sizes(told)[0]):
                there = told([("stock", kind)])[0][0]
                self.assertEqual([[1], [0]], told([("enough", kind, there), ("enough", kind, there + 1)]))


if __name__ == "__main__":
    unittest.main()
