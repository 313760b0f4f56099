"""Point 6: tare, odd, excess, fits."""

from tests.lines import BIG, EMPTY, LineCase, run, trip, weighed


class Tare(LineCase):

    start = [("begin", 10, 3000, 3, 7), ("kind", 1000, 0, 90000), ("lorry", 20000, 40000), ("lorry", 20000, 40000)]

    def test_no_such_lorry(self):
        self.check((("tare", 2), [-2]), (("tare", BIG), [-2]))
        self.check_after(trip(0, 0, 0, 0, 5000, 4000), (("tare", 2), [-2]))

    def test_a_lorry_without_a_tare(self):
        self.check((("tare", 0), [-6]), weighed([5000], 5000), (("arrive", 0, 0, 0), [0, 5000]), (("tare", 0), [-6]),
                   (("leave", 0, 0), [-44]), (("tare", 0), [-6]), (("cancel", 0), [5000]), (("tare", 0), [-6]))

    def test_each_lorry_has_its_own(self):
        self.check_after(trip(0, 1, 0, 0, 5000, 4000), (("tare", 0), [-6]), (("tare", 1), [4000, 0, 1]))

    def test_two_lorries_of_one_tare(self):
        ahead = trip(0, 0, 0, 0, 5000, 4000) + [("days", 3)] + trip(1, 1, 0, 0, 6000, 4000) + [("days", 5)]
        self.check_after(ahead, (("tare", 0), [4000, 8, 0]), (("tare", 1), [4000, 5, 1]))

    def test_the_lesser_weight_of_who_brings_and_of_who_fetches(self):
        ahead = trip(0, 0, 0, 0, 9000, 4000) + trip(1, 1, 0, 1, 3000, 3500)
        self.check_after(ahead, (("tare", 0), [4000, 0, 1]), (("tare", 1), [3000, 0, 1]))

    def test_it_is_what_was_shown(self):
        ahead = [("drift", 10, 0)] + trip(0, 0, 0, 0, 5000, 4000)
        self.check_after(ahead, (("tare", 0), [4040, 0, 1]), (("drift", 0, 0), [0]), (("tare", 0), [4040, 0, 1]))

    def test_its_last_day_and_the_day_after(self):
        self.check_after([("days", 30)] + trip(0, 0, 0, 0, 5000, 4000), (("tare", 0), [4000, 0, 1]),
                         (("days", 6), [36]), (("tare", 0), [4000, 6, 1]), (("days", 1), [37]),
                         (("tare", 0), [4000, 7, 1]), (("days", 1), [38]), (("tare", 0), [4000, 8, 0]),
                         (("days", 400), [438]), (("tare", 0), [4000, 408, 0]))

    def test_as_long_as_begin_says(self):
        for good in (0, 1, 365):
            calls = [("begin", 10, 3000, 3, good)] + self.start[1:] + trip(0, 0, 0, 0, 5000, 4000)
            for day in range(0, good, 100):
                calls.append(("days", min(100, good - day)))
            got = run(calls + [("tare", 0), ("days", 1), ("tare", 0)])
            self.assertEqual([[4000, good, 1], [good + 1], [4000, good + 1, 0]], got[-3:])

    def test_it_is_good_as_long_as_quick_takes_it(self):
        self.check_after(trip(0, 0, 0, 0, 5000, 4000) + [("on", [6000])], (("days", 7), [7]),
                         (("tare", 0), [4000, 7, 1]), (("quick", 0, 0, 0, 0), [2000, 2000, 2000, 1]),
                         (("days", 1), [8]), (("tare", 0), [4000, 8, 0]), (("quick", 0, 0, 0, 0), [-61]))

    def test_the_last_one_counts(self):
        ahead = trip(0, 0, 0, 0, 5000, 4000) + [("days", 2)] + trip(1, 0, 0, 0, 5000, 4500) + [("days", 1)]
        self.check_after(ahead, (("tare", 0), [4500, 1, 1]))
        self.check_after(ahead + trip(2, 0, 0, 0, 5000, 3000), (("tare", 0), [3000, 0, 1]))

    def test_a_tare_that_was_no_longer_good_is_good_when_taken_anew(self):
        ahead = trip(0, 0, 0, 0, 5000, 4000) + [("days", 50)]
        self.check_after(ahead, (("tare", 0), [4000, 50, 0]))
        self.check_after(ahead + trip(1, 0, 0, 0, 5000, 4000), (("tare", 0), [4000, 0, 1]))

    def test_quick_takes_none(self):
        ahead = trip(0, 0, 0, 0, 5000, 4000) + [("days", 2), ("on", [6000]), ("quick", 0, 0, 0, 0)]
        self.check_after(ahead, (("tare", 0), [4000, 2, 1]))

    def test_nothing_need_be_on_the_scale_nor_the_lorry_be_away(self):
        self.check_after(trip(0, 0, 0, 0, 5000, 4000), weighed([50000], 50000), (("tare", 0), [4000, 0, 1]), EMPTY,
                         weighed([5000], 5000), (("arrive", 0, 0, 0), [1, 5000]), (("tare", 0), [4000, 0, 1]))


class Odd(LineCase):

    # A step of 1, so that tares can differ by 1.
    start = [("begin", 1, 5000, 3, 7), ("kind", 1000, 0, 90000), ("lorry", 20000, 40000), ("lorry", 20000, 40000)]

    def tares(self, *weights):
        return [call for ticket, weight in enumerate(weights) for call in trip(ticket, 0, 0, 0, 5000, weight)]

    def test_no_such_lorry(self):
        self.check((("odd", 2), [-2]), (("odd", BIG), [-2]))
        self.check_after(self.tares(100, 200), (("odd", 2), [-2]))

    def test_a_lorry_that_has_not_two(self):
        self.check((("odd", 0), [-6]))
        self.check_after(self.tares(1000), (("odd", 0), [-6]))
        self.check_after(self.tares(1000, 1000), (("odd", 0), [0, 0]), (("odd", 1), [-6]))

    def test_one_of_each_lorry_is_not_two(self):
        self.check_after(trip(0, 0, 0, 0, 5000, 1000) + trip(1, 1, 0, 0, 5000, 2000),
                         (("odd", 0), [-6]), (("odd", 1), [-6]))

    def test_quick_makes_no_second(self):
        self.check_after(self.tares(1000) + [("on", [4000]), ("quick", 0, 0, 0, 0)], (("odd", 0), [-6]))

    def test_a_ticket_that_is_called_off_makes_no_second(self):
        self.check_after(self.tares(1000) + [("on", [4000]), ("arrive", 0, 0, 0), ("cancel", 1)], (("odd", 0), [-6]))

    def test_two_hundredths_just_and_more_both_ways(self):
        for before, last, odd in ((4000, 4080, 0), (4000, 4081, 1), (4000, 3920, 0), (4000, 3919, 1), (4000, 4001, 0),
                                  (4000, 3999, 0), (50, 51, 0), (50, 52, 1), (50, 49, 0), (50, 48, 1)):
            self.check_after(self.tares(before, last), (("odd", 0), [odd, last - before]))

    def test_two_hundredths_that_are_no_whole_number(self):
        for before, last, odd in ((149, 151, 0), (149, 152, 1), (149, 147, 0), (149, 146, 1), (49, 50, 1), (49, 48, 1),
                                  (151, 154, 0), (151, 155, 1), (151, 148, 0), (151, 147, 1), (1, 2, 1), (2, 1, 1)):
            self.check_after(self.tares(before, last), (("odd", 0), [odd, last - before]))

    def test_it_goes_by_the_one_before_not_by_the_last(self):
        self.check_after(self.tares(4500, 4591), (("odd", 0), [1, 91]))
        self.check_after(self.tares(4591, 4500), (("odd", 0), [0, -91]))

    def test_the_last_two_count(self):
        self.check_after(self.tares(1000, 2000, 2010), (("odd", 0), [0, 10]))
        self.check_after(self.tares(1000, 1010, 1000, 900), (("odd", 0), [1, -100]))

    def test_days_do_not_count(self):
        ahead = self.tares(1000) + [("days", 300)] + trip(1, 0, 0, 0, 5000, 1100) + [("days", 400)]
        self.check_after(ahead, (("odd", 0), [1, 100]))

    def test_a_refused_leave_makes_no_second(self):
        self.check_after(self.tares(1000), weighed([900], 900), (("arrive", 0, 0, 0), [1, 900]), EMPTY,
                         weighed([1000], 1000), (("leave", 1, 0), [-44]), (("odd", 0), [-6]))


class Excess(LineCase):

    # Lorry 0 may have 9,000 on an axle and 20,000 in all.
    start = [("begin", 10, 3000, 3, 7), ("kind", 1000, 0, 90000), ("lorry", 9000, 20000), ("lorry", 20000, 5000)]

    def test_no_such_lorry(self):
        self.check((("excess", 2), [-2]), weighed([500], 500), (("excess", 2), [-2]), (("excess", BIG), [-2]))

    def test_nothing_can_be_weighed(self):
        self.check((("excess", 0), [-6]), weighed([30095], 30100), (("excess", 0), [-28]), EMPTY,
                   weighed([4], 0), (("excess", 0), [-12]), EMPTY, weighed([0], 0), (("excess", 0), [-12]))

    def test_it_shows_less_than_0(self):
        self.check((("drift", 0, -500), [0]), (("on", [400]), [0, -100]), (("excess", 0), [-12]))

    def test_the_order_of_the_refusals(self):
        self.check((("excess", 2), [-2]), weighed([50000], 50000), (("excess", 2), [-2]), EMPTY,
                   weighed([1], 0), (("excess", 2), [-2]), EMPTY, (("drift", 0, 2000), [0]), (("excess", 0), [-6]))
        self.check((("begin", 1, 100, 1, 0), [0]), (("lorry", 1, 1), [0]), (("drift", 0, 2000), [0]),
                   (("excess", 0), [-6]), (("on", [0]), [0, 2000]), (("excess", 0), [-28]))

    def test_a_light_lorry(self):
        self.check(weighed([5, 20], 30), (("excess", 0), [1, 0, 0]))

    def test_just_as_heavy_as_it_may_be(self):
        self.check(weighed([9000, 2000, 9000], 20000), (("excess", 0), [1, 0, 0]))

    def test_all_of_it_is_above(self):
        self.check(weighed([9000, 2010, 9000], 20010), (("excess", 0), [0, 10, 0]), EMPTY,
                   weighed([9000, 9000, 9000, 1500], 28500), (("excess", 0), [0, 8500, 0]))

    def test_all_of_it_is_above_by_1(self):
        self.check((("lorry", 9000, 4999), [2]), (("lorry", 9000, 5001), [3]), weighed([9000], 9000),
                   (("arrive", 2, 0, 0), [0, 9000]), EMPTY, weighed([5000], 5000), (("excess", 2), [0, 1, 0]),
                   (("leave", 0, 0), [-40]), (("excess", 3), [1, 0, 0]))

    def test_an_axle_is_above_while_all_is_not(self):
        for axles, above in (([9001], 1), ([10, 9500, 30], 500), ([9002, 9001, 10], 2), ([10, 9001, 9002], 2)):
            self.check((("on", axles), [0, (sum(axles) + 5) // 10 * 10]), (("excess", 0), [0, 0, above]))

    def test_both_are_above(self):
        self.check(weighed([9000, 12001, 9000], 30000), (("excess", 0), [0, 10000, 3001]))

    def test_all_goes_by_what_is_shown_and_axles_by_what_they_are(self):
        self.check(weighed([9000, 9000, 2004], 20000), (("excess", 0), [1, 0, 0]), EMPTY,
                   weighed([9000, 9000, 2005], 20010), (("excess", 0), [0, 10, 0]))
        self.check((("drift", -20, 0), [0]), weighed([9001, 9000], 17640), (("excess", 0), [0, 0, 1]), EMPTY,
                   weighed([9000, 9000, 2400], 19990), (("excess", 0), [1, 0, 0]), (("drift", 20, 0), [0]),
                   (("excess", 0), [0, 810, 0]))

    def test_nine_steps_above_the_most(self):
        self.check(weighed([9000, 9000, 9000, 3094], 30090), (("excess", 0), [0, 10090, 0]))

    def test_each_lorry_has_its_own(self):
        self.check(weighed([9001], 9000), (("excess", 0), [0, 0, 1]), (("excess", 1), [0, 4000, 0]))

    def test_it_is_as_leave_has_it(self):
        for axles in ([4000], [5000], [5010], [9000], [9001], [9000, 9000], [9000, 9000, 2000], [9000, 9000, 2010]):
            for lorry in (0, 1):
                calls = self.start + [("on", [9000, 9000, 9000]), ("arrive", lorry, 0, 0), ("off",), ("on", axles)]
                got = run(calls + [("excess", lorry), ("leave", 0, 0)])
                self.assertEqual(got[-2][0] == 0, got[-1] == [-40], axles)

    def test_the_lorry_may_be_on_the_yard_or_not(self):
        self.check(weighed([9001], 9000), (("arrive", 0, 0, 0), [0, 9000]), (("excess", 0), [0, 0, 1]),
                   (("cancel", 0), [9000]), (("excess", 0), [0, 0, 1]))


class Fits(LineCase):

    start = [("begin", 10, 3000, 3, 7), ("kind", 1000, 0, 90000), ("lorry", 9000, 20000), ("lorry", 20000, 5005)]

    def test_no_such_lorry(self):
        self.check((("fits", 2), [-2]), weighed([500], 500), (("fits", 2), [-2]), (("fits", BIG), [-2]))

    def test_nothing_can_be_weighed(self):
        self.check((("fits", 0), [-6]), weighed([30095], 30100), (("fits", 0), [-28]), EMPTY,
                   weighed([4], 0), (("fits", 0), [-12]))

    def test_the_order_of_the_refusals(self):
        self.check((("fits", 2), [-2]), weighed([50000], 50000), (("fits", 2), [-2]), EMPTY,
                   weighed([1], 0), (("fits", 2), [-2]))
        self.check((("begin", 1, 100, 1, 0), [0]), (("lorry", 1, 1), [0]), (("drift", 0, 2000), [0]),
                   (("fits", 0), [-6]), (("on", [0]), [0, 2000]), (("fits", 0), [-28]))

    def test_how_much_more_it_may_weigh(self):
        self.check(weighed([4000, 2000], 6000), (("fits", 0), [14000]), (("fits", 1), [0]), EMPTY,
                   weighed([5], 10), (("fits", 0), [19990]), (("fits", 1), [4995]))

    def test_just_as_heavy_as_it_may_be(self):
        for load, shown, left in ((19990, 19990, 10), (20000, 20000, 0), (20010, 20010, 0), (30090, 30090, 0)):
            self.check(weighed([load], shown), (("fits", 0), [left]))

    def test_it_goes_by_what_is_shown(self):
        self.check(weighed([19994], 19990), (("fits", 0), [10]), EMPTY, weighed([19995], 20000), (("fits", 0), [0]))
        self.check((("drift", 10, 7), [0]), (("on", [10000]), [0, 10110]), (("fits", 0), [9890]))

    def test_axles_do_not_count(self):
        self.check(weighed([9500], 9500), (("fits", 0), [10500]))
