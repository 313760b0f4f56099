"""What tickets and lorries keep of the calls of points 3 to 5."""

import unittest

from tests.lines import written
from weighbridge.scale import Line, ask

START = [("begin", 10, 3000, 3, 7), ("kind", 1250, 15, 20000), ("lorry", 9000, 20000), ("days", 4),
         ("on", [9000, 1010]), ("arrive", 0, 0, 0)]
LEFT = START + [("off",), ("on", [4000]), ("leave", 0, 16)]


def yard_after(calls):
    line = Line()
    for call in calls:
        numbers = written(call)
        ask(line, numbers[0], numbers[1:])
    return line.yard


def kept(ticket):
    return [ticket.state, ticket.lorry, ticket.kind, ticket.way, ticket.first, ticket.second, ticket.net, ticket.paid,
            ticket.amount]


class Tickets(unittest.TestCase):

    def test_on_the_yard(self):
        self.assertEqual([0, 0, 0, 0, 10010, 0, 0, 0, 0], kept(yard_after(START).tickets[0]))

    def test_done(self):
        self.assertEqual([1, 0, 0, 0, 10010, 4000, 6010, 5939, 7424], kept(yard_after(LEFT).tickets[0]))

    def test_called_off(self):
        self.assertEqual([2, 0, 0, 0, 10010, 0, 0, 0, 0], kept(yard_after(START + [("cancel", 0)]).tickets[0]))

    def test_done_by_one_weight(self):
        yard = yard_after(LEFT + [("off",), ("on", [5000]), ("quick", 0, 0, 1, 0)])
        self.assertEqual([1, 0, 0, 1, 4000, 5000, 1000, 1000, 1250], kept(yard.tickets[1]))


class Tares(unittest.TestCase):

    def trip(self, tare, ticket):
        return [("off",), ("on", [tare + 500]), ("arrive", 0, 0, 0), ("off",), ("on", [tare]), ("leave", ticket, 0)]

    def test_none_before_it_left(self):
        self.assertEqual([], yard_after(START).lorries[0].tares)

    def test_the_last_two_and_the_day(self):
        lorry = yard_after(LEFT).lorries[0]
        self.assertEqual(([4000], 4), (lorry.tares, lorry.tare_day))
        lorry = yard_after(LEFT + [("days", 2)] + self.trip(4100, 1)).lorries[0]
        self.assertEqual(([4000, 4100], 6), (lorry.tares, lorry.tare_day))
        lorry = yard_after(LEFT + self.trip(4100, 1) + [("days", 3)] + self.trip(4050, 2)).lorries[0]
        self.assertEqual(([4100, 4050], 7), (lorry.tares, lorry.tare_day))

    def test_one_weight_is_no_tare(self):
        lorry = yard_after(LEFT + [("days", 1), ("off",), ("on", [5000]), ("quick", 0, 0, 0, 0)]).lorries[0]
        self.assertEqual(([4000], 4), (lorry.tares, lorry.tare_day))


class Stock(unittest.TestCase):

    def test_what_came_less_what_went(self):
        calls = LEFT + [("off",), ("on", [5000]), ("quick", 0, 0, 1, 0)]
        self.assertEqual(5010, yard_after(calls).kinds[0].stock)
        self.assertEqual(7010, yard_after(calls + [("quick", 0, 0, 0, 0)] * 2).kinds[0].stock)


if __name__ == "__main__":
    unittest.main()
