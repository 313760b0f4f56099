"""Point 5: quick, cancel, days."""

from tests.lines import BIG, EMPTY, LineCase, weighed


class Quick(LineCase):

    # Lorry 0 has a tare of 4,000 from day 0, and 6,000 of kind 0 are there.
    start = [("begin", 10, 3000, 1, 7), ("kind", 1250, 15, 20000), ("kind", 500, 0, 90000),
             ("lorry", 9000, 20000), ("lorry", 9000, 20000), ("on", [5000, 5000]), ("arrive", 0, 0, 0), ("off",),
             ("on", [4000]), ("leave", 0, 0), ("off",)]

    def test_a_lorry_brings(self):
        self.check(weighed([9000, 1010], 10010), (("quick", 0, 0, 0, 0), [6010, 6010, 7513, 1]))

    def test_a_lorry_fetches(self):
        self.check(weighed([8000], 8000), (("quick", 0, 0, 1, 0), [4000, 4000, 5000, 1]),
                   (("quick", 0, 0, 1, 0), [-33]))

    def test_wet_goods(self):
        for moist, paid in ((15, 1010), (16, 998), (100, 0)):
            self.check(weighed([5010], 5010), (("quick", 0, 0, 0, moist), [1010, paid, (paid * 1250 + 500) // 1000, 1]))

    def test_no_such_lorry_or_kind(self):
        self.check(weighed([5000], 5000), (("quick", 2, 0, 0, 0), [-2]), (("quick", 0, 2, 0, 0), [-2]),
                   (("quick", BIG, 0, 0, 0), [-2]), (("quick", 0, BIG, 0, 0), [-2]))

    def test_no_such_way_or_wetness(self):
        self.check(weighed([5000], 5000), (("quick", 0, 0, 2, 0), [-22]), (("quick", 0, 0, BIG, 0), [-22]),
                   (("quick", 0, 0, 0, 101), [-22]), (("quick", 0, 0, 0, BIG), [-22]))

    def test_a_lorry_that_is_on_the_yard(self):
        self.check(weighed([5000], 5000), (("arrive", 0, 0, 0), [1, 5000]), (("quick", 0, 0, 0, 0), [-17]),
                   (("cancel", 1), [5000]), (("quick", 0, 0, 0, 0), [1000, 1000, 1250, 2]))

    def test_a_full_yard_does_not_matter(self):
        self.check(weighed([5000], 5000), (("arrive", 1, 0, 0), [1, 5000]), (("arrive", 0, 0, 0), [-13]),
                   (("quick", 0, 0, 0, 0), [1000, 1000, 1250, 2]))

    def test_it_does_not_stay_on_the_yard(self):
        self.check(weighed([5000], 5000), (("quick", 0, 0, 0, 0), [1000, 1000, 1250, 1]),
                   (("cancel", 1), [-17]), (("leave", 1, 0), [-17]), (("arrive", 1, 0, 0), [2, 5000]))

    def test_nothing_can_be_weighed(self):
        self.check((("quick", 0, 0, 0, 0), [-6]), weighed([30095], 30100), (("quick", 0, 0, 0, 0), [-28]), EMPTY,
                   weighed([4], 0), (("quick", 0, 0, 0, 0), [-12]))

    def test_nine_steps_above_the_most(self):
        self.check((("kind", 1000, 0, 99999), [2]), weighed([30094], 30090),
                   (("quick", 0, 2, 0, 0), [26090, 26090, 26090, 1]))

    def test_a_lorry_without_a_tare(self):
        self.check(weighed([5000], 5000), (("quick", 1, 0, 0, 0), [-61]))

    def test_a_tare_on_its_last_day(self):
        self.check(weighed([5000], 5000), (("days", 7), [7]), (("quick", 0, 0, 0, 0), [1000, 1000, 1250, 1]),
                   (("days", 1), [8]), (("quick", 0, 0, 0, 0), [-61]))

    def test_a_tare_that_is_good_on_its_day_alone(self):
        self.check((("begin", 10, 3000, 1, 0), [0]), (("kind", 1000, 0, 9000), [0]), (("lorry", 9000, 9000), [0]),
                   (("days", 5), [5]), weighed([5000], 5000), (("arrive", 0, 0, 0), [0, 5000]), EMPTY,
                   weighed([4000], 4000), (("leave", 0, 0), [1000, 1000, 1000]), EMPTY, weighed([4500], 4500),
                   (("quick", 0, 0, 0, 0), [500, 500, 500, 1]), (("days", 1), [6]), (("quick", 0, 0, 0, 0), [-61]))

    def test_a_tare_is_of_the_day_the_lorry_left(self):
        self.check(weighed([5000], 5000), (("arrive", 1, 0, 0), [1, 5000]), (("days", 20), [20]), EMPTY,
                   weighed([4500], 4500), (("leave", 1, 0), [500, 500, 625]), EMPTY, (("days", 7), [27]),
                   weighed([4800], 4800), (("quick", 1, 0, 0, 0), [300, 300, 375, 2]), (("quick", 0, 0, 0, 0), [-61]),
                   (("days", 1), [28]), (("quick", 1, 0, 0, 0), [-61]))

    def test_quick_takes_no_tare(self):
        self.check((("days", 6), [6]), weighed([5000], 5000), (("quick", 0, 0, 0, 0), [1000, 1000, 1250, 1]),
                   (("quick", 0, 0, 0, 0), [1000, 1000, 1250, 2]), (("days", 2), [8]), (("quick", 0, 0, 0, 0), [-61]))

    def test_the_last_tare_is_used(self):
        self.check(weighed([6000], 6000), (("arrive", 0, 0, 0), [1, 6000]), EMPTY, weighed([4500], 4500),
                   (("leave", 1, 0), [1500, 1500, 1875]), EMPTY, weighed([6000], 6000),
                   (("quick", 0, 0, 0, 0), [1500, 1500, 1875, 2]), (("arrive", 0, 0, 0), [3, 6000]), EMPTY,
                   weighed([3000], 3000), (("leave", 3, 0), [3000, 3000, 3750]), EMPTY, weighed([4000], 4000),
                   (("quick", 0, 0, 0, 0), [1000, 1000, 1250, 4]))

    def test_two_lorries_of_one_tare(self):
        self.check((("days", 2), [2]), weighed([6000], 6000), (("arrive", 1, 0, 0), [1, 6000]), EMPTY,
                   weighed([4000], 4000), (("leave", 1, 0), [2000, 2000, 2500]), EMPTY, weighed([5000], 5000),
                   (("quick", 0, 0, 0, 0), [1000, 1000, 1250, 2]), (("quick", 1, 0, 0, 0), [1000, 1000, 1250, 3]),
                   (("days", 6), [8]), (("quick", 0, 0, 0, 0), [-61]),
                   (("quick", 1, 0, 0, 0), [1000, 1000, 1250, 4]))

    def test_who_fetches_must_not_be_too_heavy(self):
        self.check(weighed([9001], 9000), (("quick", 0, 0, 1, 0), [-40]), EMPTY,
                   weighed([9000], 9000), (("quick", 0, 0, 1, 0), [5000, 5000, 6250, 1]))
        self.check((("lorry", 20000, 5000), [2]), weighed([4500], 4500), (("arrive", 2, 0, 0), [1, 4500]), EMPTY,
                   weighed([4000], 4000), (("leave", 1, 0), [500, 500, 625]), EMPTY,
                   weighed([5010], 5010), (("quick", 2, 0, 1, 0), [-40]), EMPTY,
                   weighed([5000], 5000), (("quick", 2, 0, 1, 0), [1000, 1000, 1250, 2]))

    def test_who_brings_may_be_too_heavy(self):
        self.check(weighed([9001, 100], 9100), (("quick", 0, 0, 0, 0), [5100, 5100, 6375, 1]), EMPTY,
                   weighed([9000, 9000, 2010], 20010), (("quick", 0, 1, 0, 0), [16010, 16010, 8005, 2]))

    def test_the_weight_is_not_above_the_tare(self):
        for way in (0, 1):
            self.check(weighed([4000], 4000), (("quick", 0, 0, way, 0), [-44]), EMPTY,
                       weighed([3000], 3000), (("quick", 0, 0, way, 0), [-44]), EMPTY,
                       weighed([4010], 4010), (("quick", 0, 0, way, 0), [10, 10, 13, 1]))

    def test_stock_that_just_fits(self):
        self.check(weighed([9000, 9010], 18010), (("quick", 0, 0, 0, 0), [-75]), EMPTY,
                   weighed([9000, 9000], 18000), (("quick", 0, 0, 0, 0), [14000, 14000, 17500, 1]), EMPTY,
                   weighed([4010], 4010), (("quick", 0, 0, 0, 0), [-75]), (("quick", 0, 0, 1, 0), [10, 10, 13, 2]),
                   (("quick", 0, 0, 0, 0), [10, 10, 13, 3]))

    def test_stock_that_is_just_enough(self):
        self.check(weighed([5000, 5010], 10010), (("quick", 0, 0, 1, 0), [-33]), EMPTY,
                   weighed([5000, 5000], 10000), (("quick", 0, 0, 1, 0), [6000, 6000, 7500, 1]), EMPTY,
                   weighed([4010], 4010), (("quick", 0, 0, 1, 0), [-33]))

    def test_there_are_60_tickets_at_most(self):
        steps = [weighed([4010], 4010)]
        steps += [(("quick", 0, 0, 0, 0), [10, 10, 13, number]) for number in range(1, 60)]
        self.check(*steps, (("quick", 0, 0, 0, 0), [-13]), (("quick", 0, 0, 1, 0), [-13]),
                   (("arrive", 0, 0, 0), [-13]))

    def test_the_order_of_the_refusals(self):
        self.check(
            weighed([5000], 5000), (("arrive", 1, 0, 0), [1, 5000]), EMPTY,
            (("quick", 2, 0, 2, 101), [-2]), (("quick", 1, 2, 2, 101), [-2]),
            (("quick", 1, 0, 2, 0), [-22]), (("quick", 1, 0, 0, 101), [-22]),
            (("quick", 1, 0, 0, 0), [-17]), (("cancel", 1), [5000]), (("quick", 1, 0, 0, 0), [-6]),
            weighed([40000], 40000), (("quick", 1, 0, 1, 0), [-28]), EMPTY,
            weighed([4], 0), (("quick", 1, 0, 1, 0), [-12]), EMPTY,
            weighed([9001], 9000), (("quick", 1, 0, 1, 0), [-61]), (("quick", 0, 0, 1, 0), [-40]), EMPTY,
        )

    def test_the_order_of_the_last_refusals(self):
        steps = [weighed([4010], 4010)]
        steps += [(("quick", 0, 0, 0, 0), [10, 10, 13, number]) for number in range(1, 60)] + [EMPTY]
        steps += [(("quick", 0, 0, 0, 0), [-6]), weighed([9001, 10], 9010), (("quick", 1, 0, 1, 0), [-61]),
                  (("quick", 0, 0, 1, 0), [-40]), EMPTY, weighed([3000], 3000),
                  (("quick", 0, 0, 0, 0), [-13]), EMPTY, weighed([9000, 9000, 9000], 27000),
                  (("quick", 0, 0, 0, 0), [-13]), EMPTY, weighed([8000, 8000], 16000),
                  (("quick", 0, 0, 1, 0), [-13])]
        self.check(*steps)

    def test_a_tare_that_is_no_longer_good_is_told_before_too_heavy(self):
        self.check((("days", 8), [8]), weighed([9001], 9000), (("quick", 0, 0, 1, 0), [-61]))

    def test_a_tare_that_is_no_longer_good_is_told_before_nothing_net_and_stock(self):
        self.check((("days", 8), [8]), weighed([3000], 3000), (("quick", 0, 0, 0, 0), [-61]), EMPTY,
                   weighed([9000, 9010], 18010), (("quick", 0, 0, 0, 0), [-61]), (("quick", 0, 0, 1, 0), [-61]))

    def test_too_heavy_is_told_before_not_so_much_and_nothing_net(self):
        self.check(weighed([9001, 5000], 14000), (("quick", 0, 0, 1, 0), [-40]), EMPTY,
                   weighed([9000, 5000], 14000), (("quick", 0, 0, 1, 0), [-33]))
        # Lorry 2 has its tare on two axles; on one axle the same weight is too heavy and nothing's net.
        self.check((("lorry", 2500, 9000), [2]), weighed([2500, 2500], 5000), (("arrive", 2, 0, 0), [1, 5000]), EMPTY,
                   weighed([2000, 2000], 4000), (("leave", 1, 0), [1000, 1000, 1250]), EMPTY,
                   weighed([4000], 4000), (("quick", 2, 0, 1, 0), [-40]), (("quick", 2, 0, 0, 0), [-44]))


class Cancel(LineCase):

    start = [("begin", 10, 3000, 2, 7), ("kind", 1000, 15, 20000), ("lorry", 9000, 10000), ("lorry", 9000, 10000)]

    def test_the_first_weight_is_told(self):
        self.check(weighed([5000], 5000), (("arrive", 0, 0, 0), [0, 5000]), EMPTY,
                   weighed([4000], 4000), (("arrive", 1, 0, 1), [1, 4000]), (("cancel", 0), [5000]),
                   (("cancel", 1), [4000]))

    def test_no_such_ticket(self):
        self.check((("cancel", 0), [-2]), (("cancel", BIG), [-2]), weighed([500], 500), (("arrive", 0, 0, 0), [0, 500]),
                   (("cancel", 1), [-2]))

    def test_a_ticket_that_is_not_on_the_yard(self):
        self.check(weighed([500], 500), (("arrive", 0, 0, 0), [0, 500]), (("arrive", 1, 0, 0), [1, 500]), EMPTY,
                   weighed([400], 400), (("leave", 1, 0), [100, 100, 100]), (("cancel", 1), [-17]),
                   (("cancel", 0), [500]), (("cancel", 0), [-17]))

    def test_nothing_need_be_on_the_scale(self):
        self.check(weighed([500], 500), (("arrive", 0, 0, 0), [0, 500]), EMPTY, (("cancel", 0), [500]))

    def test_a_lorry_that_is_too_heavy_and_called_off(self):
        self.check(weighed([5000, 6000], 11000), (("arrive", 0, 0, 0), [0, 11000]), EMPTY,
                   weighed([5000, 5010], 10010), (("leave", 0, 0), [-40]), (("cancel", 0), [11000]),
                   (("leave", 0, 0), [-17]), (("quick", 0, 0, 0, 0), [-61]), (("arrive", 0, 0, 0), [1, 10010]))

    def test_it_moves_no_stock(self):
        self.check(weighed([500], 500), (("arrive", 0, 0, 0), [0, 500]), (("cancel", 0), [500]), EMPTY,
                   weighed([100], 100), (("arrive", 1, 0, 1), [1, 100]), EMPTY, weighed([110], 110),
                   (("leave", 1, 0), [-33]))


class Days(LineCase):

    def test_the_day_is_told(self):
        self.check((("days", 1), [1]), (("days", 400), [401]), (("days", 7), [408]))

    def test_out_of_range(self):
        self.check((("days", 0), [-22]), (("days", 401), [-22]), (("days", BIG), [-22]), (("days", 2), [2]))
