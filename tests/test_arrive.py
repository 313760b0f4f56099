"""Point 3: arrive."""

from tests.lines import BIG, LineCase


class Arrive(LineCase):

    start = [("begin", 10, 3000, 3, 7), ("kind", 1000, 15, 50000), ("kind", 500, 0, 90000)]
    start += [("lorry", 9000, 20000) for number in range(6)]

    def test_a_ticket_and_its_weight(self):
        self.check((("on", [804, 300]), [0, 1100]), (("arrive", 0, 0, 0), [0, 1100]), (("arrive", 5, 1, 1), [1, 1100]))

    def test_the_weight_is_what_it_shows(self):
        self.check((("drift", 10, 7), [0]), (("on", [2000]), [0, 2030]), (("arrive", 0, 0, 0), [0, 2030]))

    def test_no_such_lorry_or_kind(self):
        self.check((("on", [500]), [0, 500]), (("arrive", 6, 0, 0), [-2]), (("arrive", 0, 2, 0), [-2]),
                   (("arrive", BIG, 0, 0), [-2]), (("arrive", 0, BIG, 0), [-2]), (("arrive", 0, 0, 0), [0, 500]))

    def test_no_such_way(self):
        self.check((("on", [500]), [0, 500]), (("arrive", 0, 0, 2), [-22]), (("arrive", 0, 0, BIG), [-22]),
                   (("arrive", 0, 0, 1), [0, 500]))

    def test_no_lorry_is_on_the_yard_twice(self):
        self.check((("on", [500]), [0, 500]), (("arrive", 2, 0, 0), [0, 500]), (("arrive", 2, 0, 0), [-17]),
                   (("arrive", 2, 1, 1), [-17]), (("arrive", 1, 0, 0), [1, 500]), (("arrive", 2, 0, 0), [-17]))

    def test_it_may_come_again_when_it_left_or_was_called_off(self):
        self.check((("on", [500]), [0, 500]), (("arrive", 2, 0, 0), [0, 500]), (("cancel", 0), [500]),
                   (("arrive", 2, 0, 0), [1, 500]), (("off",), [0, 0]), (("on", [400]), [0, 400]),
                   (("leave", 1, 0), [100, 100, 100]), (("arrive", 2, 0, 0), [2, 400]))

    def test_nothing_on_the_scale(self):
        self.check((("arrive", 0, 0, 0), [-6]), (("on", [500]), [0, 500]), (("off",), [0, 0]),
                   (("arrive", 0, 0, 0), [-6]))

    def test_nothing_on_the_scale_though_it_shows_something(self):
        self.check((("drift", 0, 400), [0]), (("show",), [0, 400]), (("arrive", 0, 0, 0), [-6]))

    def test_nine_steps_above_the_most(self):
        self.check((("on", [30094]), [0, 30090]), (("arrive", 0, 0, 0), [0, 30090]))
        self.check((("on", [30095]), [0, 30100]), (("arrive", 0, 0, 0), [-28]))

    def test_it_shows_0_or_less(self):
        self.check((("on", [4]), [0, 0]), (("arrive", 0, 0, 0), [-12]))
        self.check((("on", [5]), [0, 10]), (("arrive", 0, 0, 0), [0, 10]))
        self.check((("drift", 0, -1000), [0]), (("on", [900]), [0, -100]), (("arrive", 0, 0, 0), [-12]))
        self.check((("on", [0]), [0, 0]), (("arrive", 0, 0, 0), [-12]))

    def test_it_shows_1(self):
        self.check((("begin", 1, 100, 1, 0), [0]), (("kind", 1, 0, 9), [0]), (("lorry", 1, 1), [0]),
                   (("on", [1]), [0, 1]), (("arrive", 0, 0, 0), [0, 1]))

    def test_the_yard_is_full(self):
        self.check((("on", [500]), [0, 500]), (("arrive", 0, 0, 0), [0, 500]), (("arrive", 1, 0, 0), [1, 500]),
                   (("arrive", 2, 0, 0), [2, 500]), (("arrive", 3, 0, 0), [-13]), (("cancel", 1), [500]),
                   (("arrive", 3, 0, 0), [3, 500]), (("arrive", 1, 0, 0), [-13]))

    def test_a_lorry_that_is_too_heavy_may_come(self):
        self.check((("on", [9001, 20000]), [0, 29000]), (("arrive", 0, 0, 0), [0, 29000]))

    def test_there_are_60_tickets_at_most(self):
        steps = [(("on", [500]), [0, 500])]
        for number in range(60):
            steps += [(("arrive", 0, 0, 0), [number, 500]), (("cancel", number), [500])]
        self.check(*steps, (("arrive", 0, 0, 0), [-13]), (("off",), [0, 0]), (("arrive", 0, 0, 0), [-6]))

    def test_the_order_of_the_refusals(self):
        self.check(
            (("on", [500]), [0, 500]),
            (("arrive", 0, 0, 0), [0, 500]), (("arrive", 1, 0, 0), [1, 500]), (("arrive", 2, 0, 0), [2, 500]),
            (("off",), [0, 0]),
            (("arrive", 6, 0, 2), [-2]), (("arrive", 0, 2, 2), [-2]),
            (("arrive", 0, 0, 2), [-22]),
            (("arrive", 0, 0, 0), [-17]),
            (("arrive", 3, 0, 0), [-6]),
            (("on", [40000]), [0, 40000]), (("arrive", 0, 0, 0), [-17]), (("arrive", 3, 0, 0), [-28]),
            (("off",), [0, 0]), (("on", [1]), [0, 0]), (("arrive", 3, 0, 0), [-12]),
            (("off",), [0, 0]), (("on", [500]), [0, 500]), (("arrive", 3, 0, 0), [-13]),
            (("cancel", 2), [500]), (("arrive", 3, 0, 0), [3, 500]),
        )

    def test_with_nothing_on_it_too_much_is_not_told(self):
        self.check((("begin", 1, 100, 1, 0), [0]), (("kind", 1, 0, 9), [0]), (("lorry", 1, 1), [0]),
                   (("drift", 0, 2000), [0]), (("arrive", 0, 0, 0), [-6]))

    def test_the_yard_holds_what_begin_says(self):
        for room in (1, 8):
            calls = [(("begin", 10, 3000, room, 7), [0]), (("kind", 1, 0, 9), [0])]
            calls += [(("lorry", 1, 1), [number]) for number in range(9)]
            calls += [(("on", [500]), [0, 500])]
            calls += [(("arrive", number, 0, 0), [number, 500]) for number in range(room)]
            self.check(*calls, (("arrive", 8, 0, 0), [-13]))
