"""Point 4: leave."""

from tests.lines import BIG, EMPTY, LineCase, run, weighed


class Leave(LineCase):

    # Kind 0 may be 15 hundredths wet, and there may be 20,000 of it; a thousand cost 1,250.
    start = [("begin", 10, 3000, 3, 7), ("kind", 1250, 15, 20000), ("kind", 500, 0, 90000),
             ("lorry", 9000, 20000), ("lorry", 9000, 20000), ("lorry", 9000, 20000)]

    brought = (weighed([9000, 6000], 15000), (("arrive", 0, 0, 0), [0, 15000]), EMPTY,
               weighed([3000, 2000], 5000), (("leave", 0, 15), [10000, 10000, 12500]), EMPTY)

    def test_a_lorry_brings(self):
        self.check(*self.brought)

    def test_a_lorry_fetches(self):
        self.check(*self.brought, weighed([5000], 5000), (("arrive", 1, 0, 1), [1, 5000]), EMPTY,
                   weighed([6000, 3000], 9000), (("leave", 1, 0), [4000, 4000, 5000]))

    def test_no_such_ticket(self):
        self.check((("leave", 0, 0), [-2]), (("leave", BIG, 0), [-2]), *self.brought, (("leave", 1, 0), [-2]))

    def test_a_ticket_that_is_not_on_the_yard(self):
        self.check(*self.brought, weighed([3000], 3000), (("leave", 0, 0), [-17]),
                   (("arrive", 0, 0, 0), [1, 3000]), (("cancel", 1), [3000]), (("leave", 1, 0), [-17]))

    def test_how_wet_it_is(self):
        self.check(weighed([5000], 5000), (("arrive", 0, 0, 0), [0, 5000]), EMPTY, weighed([4000], 4000),
                   (("leave", 0, 101), [-22]), (("leave", 0, BIG), [-22]), (("leave", 0, 100), [1000, 0, 0]))

    def test_goods_just_as_wet_as_they_may_be(self):
        for moist, paid in ((0, 1010), (14, 1010), (15, 1010), (16, 998), (57, 510), (99, 11), (100, 0)):
            amount = (paid * 1250 * 2 + 1000) // 2000
            self.check(weighed([5010], 5010), (("arrive", 0, 0, 0), [0, 5010]), EMPTY, weighed([4000], 4000),
                       (("leave", 0, moist), [1010, paid, amount]))

    def test_fetched_goods_are_paid_alike(self):
        self.check(*self.brought, weighed([4000], 4000), (("arrive", 1, 0, 1), [1, 4000]), EMPTY,
                   weighed([5010], 5010), (("leave", 1, 16), [1010, 998, 1248]))

    def test_wetter_is_never_paid_more(self):
        paid = []
        for moist in range(101):
            got = run(self.start + [("on", [5010]), ("arrive", 0, 0, 0), ("off",), ("on", [4000]), ("leave", 0, moist)])
            self.assertEqual(1010, got[-1][0])
            paid.append(got[-1][1])
        self.assertEqual(sorted(paid, reverse=True), paid)

    def test_the_amount_is_rounded_to_the_nearest(self):
        for price, amount in ((49, 0), (50, 1), (149, 1), (150, 2), (151, 2), (100000, 1000)):
            self.check((("kind", price, 0, 10), [2]), weighed([20], 20), (("arrive", 0, 2, 0), [0, 20]), EMPTY,
                       weighed([10], 10), (("leave", 0, 0), [10, 10, amount]))

    def test_the_amount_just_below_half_way(self):
        for price, amount in ((499, 0), (500, 1), (501, 1), (1499, 1), (1500, 2)):
            self.check((("begin", 1, 3000, 3, 7), [0]), (("kind", price, 0, 10), [0]), (("lorry", 9, 9), [0]),
                       weighed([2], 2), (("arrive", 0, 0, 0), [0, 2]), EMPTY,
                       weighed([1], 1), (("leave", 0, 0), [1, 1, amount]))

    def test_nothing_can_be_weighed(self):
        self.check(weighed([5000], 5000), (("arrive", 0, 0, 0), [0, 5000]), EMPTY, (("leave", 0, 0), [-6]),
                   weighed([40000], 40000), (("leave", 0, 0), [-28]), EMPTY,
                   weighed([4], 0), (("leave", 0, 0), [-12]), EMPTY,
                   weighed([5], 10), (("leave", 0, 0), [4990, 4990, 6238]))

    def test_all_of_it_is_too_heavy(self):
        for load, shown, wanted in (([9000, 9000, 2004], 20000, [10000, 10000, 5000]),
                                    ([9000, 9000, 2005], 20010, [-40])):
            self.check((("begin", 10, 3000, 3, 7), [0]), (("kind", 500, 0, 90000), [0]), (("lorry", 9000, 20000), [0]),
                       (("lorry", 20000, 40000), [1]), weighed([20000, 10000], 30000),
                       (("arrive", 1, 0, 0), [0, 30000]), EMPTY, weighed([10000], 10000),
                       (("leave", 0, 0), [20000, 20000, 10000]), (("arrive", 0, 0, 1), [1, 10000]), EMPTY,
                       weighed(load, shown), (("leave", 1, 0), wanted))

    def test_an_axle_is_too_heavy_while_all_is_not(self):
        self.check(*self.brought, weighed([5000], 5000), (("arrive", 1, 0, 1), [1, 5000]), EMPTY,
                   weighed([100, 9001, 5], 9110), (("leave", 1, 0), [-40]), EMPTY,
                   weighed([9001], 9000), (("leave", 1, 0), [-40]), EMPTY,
                   weighed([100, 9000, 5], 9110), (("leave", 1, 0), [4110, 4110, 5138]))

    def test_axles_count_as_they_really_are_and_all_as_it_is_shown(self):
        self.check((("drift", -20, 0), [0]), weighed([15000], 14700), (("arrive", 0, 0, 0), [0, 14700]), EMPTY,
                   weighed([9001], 8820), (("leave", 0, 0), [-40]), EMPTY,
                   weighed([7000], 6860), (("leave", 0, 0), [7840, 7840, 9800]))
        self.check((("lorry", 20000, 10000), [3]), weighed([15000], 15000), (("arrive", 3, 0, 0), [0, 15000]),
                   (("drift", 20, 0), [0]), EMPTY, weighed([9900], 10100), (("leave", 0, 0), [-40]),
                   (("drift", 0, 0), [0]), (("leave", 0, 0), [5100, 5100, 6375]))

    def test_who_brings_must_not_leave_too_heavy_either(self):
        self.check(weighed([9500, 9000], 18500), (("arrive", 0, 0, 0), [0, 18500]), EMPTY,
                   weighed([9001, 1000], 10000), (("leave", 0, 0), [-40]))

    def test_each_lorry_has_its_own_most(self):
        self.check((("lorry", 3000, 50000), [3]), (("lorry", 20000, 3000), [4]), weighed([6000], 6000),
                   (("arrive", 3, 0, 0), [0, 6000]), (("arrive", 4, 0, 0), [1, 6000]), (("arrive", 0, 0, 0), [2, 6000]),
                   EMPTY, weighed([3010], 3010), (("leave", 0, 0), [-40]), (("leave", 1, 0), [-40]),
                   (("leave", 2, 0), [2990, 2990, 3738]))

    def test_a_lorry_that_brings_and_leaves_heavier(self):
        self.check(weighed([5000], 5000), (("arrive", 0, 0, 0), [0, 5000]), (("leave", 0, 0), [-44]), EMPTY,
                   weighed([6000], 6000), (("leave", 0, 0), [-44]), EMPTY,
                   weighed([4990], 4990), (("leave", 0, 0), [10, 10, 13]))

    def test_a_lorry_that_fetches_and_leaves_lighter(self):
        self.check(*self.brought, weighed([5000], 5000), (("arrive", 1, 0, 1), [1, 5000]), (("leave", 1, 0), [-44]),
                   EMPTY, weighed([4000], 4000), (("leave", 1, 0), [-44]), EMPTY,
                   weighed([5010], 5010), (("leave", 1, 0), [10, 10, 13]))

    def test_stock_that_just_fits(self):
        self.check(*self.brought, weighed([9000, 6000], 15000), (("arrive", 1, 0, 0), [1, 15000]), EMPTY,
                   weighed([4990], 4990), (("leave", 1, 0), [-75]), EMPTY,
                   weighed([5000], 5000), (("leave", 1, 0), [10000, 10000, 12500]),
                   (("arrive", 2, 0, 0), [2, 5000]), EMPTY, weighed([4990], 4990), (("leave", 2, 0), [-75]))

    def test_stock_that_is_just_enough(self):
        self.check(*self.brought, weighed([5000], 5000), (("arrive", 1, 0, 1), [1, 5000]), EMPTY,
                   weighed([9000, 6010], 15010), (("leave", 1, 0), [-33]), EMPTY,
                   weighed([9000, 6000], 15000), (("leave", 1, 0), [10000, 10000, 12500]),
                   EMPTY, weighed([5000], 5000), (("arrive", 2, 0, 1), [2, 5000]), EMPTY,
                   weighed([5010], 5010), (("leave", 2, 0), [-33]))

    def test_stock_goes_by_what_is_net_not_by_what_is_paid_for(self):
        self.check(weighed([9000, 8000], 17000), (("arrive", 0, 0, 0), [0, 17000]), EMPTY,
                   weighed([1000], 1000), (("leave", 0, 100), [16000, 0, 0]),
                   (("arrive", 1, 0, 1), [1, 1000]), EMPTY,
                   weighed([8500, 8510], 17010), (("leave", 1, 100), [-33]), EMPTY,
                   weighed([8500, 8500], 17000), (("leave", 1, 100), [16000, 0, 0]))

    def test_each_kind_has_its_own_stock(self):
        self.check(*self.brought, weighed([5000], 5000), (("arrive", 1, 1, 1), [1, 5000]), EMPTY,
                   weighed([6000], 6000), (("leave", 1, 0), [-33]))

    def test_a_kind_there_may_be_none_of(self):
        self.check((("kind", 1, 0, 0), [2]), weighed([5000], 5000), (("arrive", 0, 2, 0), [0, 5000]), EMPTY,
                   weighed([4990], 4990), (("leave", 0, 0), [-75]))

    def test_tickets_leave_in_any_order(self):
        self.check(weighed([5000], 5000), (("arrive", 0, 0, 0), [0, 5000]), EMPTY,
                   weighed([6000], 6000), (("arrive", 1, 0, 0), [1, 6000]), EMPTY,
                   weighed([4000], 4000), (("leave", 1, 0), [2000, 2000, 2500]), (("leave", 1, 0), [-17]),
                   (("leave", 0, 0), [1000, 1000, 1250]), (("leave", 0, 0), [-17]))

    def test_the_lesser_weight_is_the_tare(self):
        self.check(*self.brought, weighed([6000], 6000), (("quick", 0, 0, 0, 0), [1000, 1000, 1250, 1]), EMPTY,
                   weighed([4000], 4000), (("arrive", 1, 0, 1), [2, 4000]), EMPTY,
                   weighed([6000], 6000), (("leave", 2, 0), [2000, 2000, 2500]),
                   (("quick", 1, 0, 1, 0), [2000, 2000, 2500, 3]))

    def test_a_refused_leave_takes_no_tare(self):
        self.check(weighed([5000], 5000), (("arrive", 0, 0, 0), [0, 5000]), EMPTY, weighed([6000], 6000),
                   (("leave", 0, 0), [-44]), (("cancel", 0), [5000]), (("quick", 0, 0, 0, 0), [-61]))


class LeaveOrder(LineCase):

    start = [("begin", 10, 3000, 3, 7), ("kind", 1000, 0, 100), ("lorry", 9000, 20000), ("lorry", 9000, 20000)]

    def test_who_brings(self):
        self.check(
            weighed([5000], 5000), (("arrive", 0, 0, 0), [0, 5000]), (("arrive", 1, 0, 0), [1, 5000]),
            (("cancel", 1), [5000]), EMPTY,
            (("leave", 2, 101), [-2]), (("leave", 1, 101), [-17]), (("leave", 0, 101), [-22]), (("leave", 0, 0), [-6]),
            weighed([9001, 40000], 49000), (("leave", 0, 101), [-22]), (("leave", 0, 0), [-28]), EMPTY,
            (("drift", 0, -2000), [0]), (("on", [10000]), [0, 8000]), (("leave", 0, 0), [-40]), (("off",), [0, -2000]),
            (("drift", -20, -2000), [0]), (("on", [2040]), [0, 0]), (("leave", 0, 101), [-22]),
            (("leave", 0, 0), [-12]), (("off",), [0, -2000]), (("drift", 0, 0), [0]),
            weighed([9001], 9000), (("leave", 0, 0), [-40]), EMPTY,
            weighed([9000], 9000), (("leave", 0, 0), [-44]), EMPTY,
            weighed([4890], 4890), (("leave", 0, 0), [-75]), EMPTY,
            weighed([4900], 4900), (("leave", 0, 0), [100, 100, 100]), (("leave", 0, 101), [-17]),
        )

    def test_nothing_to_weigh_is_told_before_too_heavy(self):
        self.check((("lorry", 1, 1), [2]), weighed([5000], 5000), (("arrive", 2, 0, 0), [0, 5000]), EMPTY,
                   weighed([4], 0), (("leave", 0, 0), [-12]), EMPTY, weighed([40000], 40000), (("leave", 0, 0), [-28]))

    def test_too_heavy_is_told_before_no_room(self):
        self.check(weighed([9000, 9000], 18000), (("arrive", 0, 0, 0), [0, 18000]), EMPTY,
                   weighed([9001], 9000), (("leave", 0, 0), [-40]), EMPTY,
                   weighed([9000], 9000), (("leave", 0, 0), [-75]))

    def test_who_fetches(self):
        self.check(
            weighed([5000], 5000), (("arrive", 0, 0, 1), [0, 5000]), EMPTY,
            weighed([9001], 9000), (("leave", 0, 0), [-40]), EMPTY,
            weighed([4000], 4000), (("leave", 0, 0), [-44]), EMPTY,
            weighed([5010], 5010), (("leave", 0, 0), [-33]), (("cancel", 0), [5000]),
        )
