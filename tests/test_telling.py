"""Point 7: dry, yard, look, stock, enough, totals, trips, money, heaviest, sums, state."""

from fractions import Fraction
from math import floor

from tests.lines import BIG, EMPTY, LineCase, run, trip, weighed

# Tickets of every sort: 0 brought, 1 called off, 2 fetched, 3 brought by quick, 4 brings and is on the yard,
# 5 fetched by quick, 6 fetches and is on the yard, 7 brought other goods.
MIXED = [("begin", 10, 3000, 3, 7), ("kind", 1250, 15, 20000), ("kind", 300, 0, 9000), ("kind", 7, 50, 0),
         ("lorry", 9000, 20000), ("lorry", 9000, 20000), ("lorry", 9000, 20000), ("lorry", 9000, 20000)]
MIXED += trip(0, 0, 0, 0, 10000, 4000, 16) + [("on", [700]), ("arrive", 1, 1, 0), ("cancel", 1), ("off",)]
MIXED += trip(2, 1, 0, 1, 4500, 5500) + [("days", 2), ("on", [4770]), ("quick", 0, 0, 0, 15)]
MIXED += [("arrive", 3, 0, 0), ("quick", 1, 0, 1, 0), ("arrive", 2, 1, 1), ("off",)]
MIXED += trip(7, 0, 1, 0, 7000, 4100, 1)


class Dry(LineCase):

    start = [("begin", 10, 3000, 3, 7), ("kind", 1250, 15, 20000), ("kind", 100000, 0, 0), ("kind", 1, 50, 10)]

    def test_no_such_kind(self):
        self.check((("dry", 3, 1, 1), [-2]), (("dry", BIG, 1, 1), [-2]))

    def test_out_of_range(self):
        for given in ((1000001, 0), (BIG, 0), (0, 101), (0, BIG), (1000001, 101)):
            self.check((("dry", 0) + given, [-22]))

    def test_the_order_of_the_refusals(self):
        self.check((("dry", 3, 1000001, 0), [-2]), (("dry", 3, 0, 101), [-2]))

    def test_a_million_just(self):
        self.check((("dry", 0, 1000000, 0), [1000000, 1250000]), (("dry", 1, 1000000, 0), [1000000, 100000000]),
                   (("dry", 1, 1000000, 100), [0, 0]), (("dry", 2, 1000000, 51), [980000, 980]))

    def test_just_as_wet_as_they_may_be(self):
        for moist, paid in ((0, 1010), (14, 1010), (15, 1010), (16, 998), (57, 510), (99, 11), (100, 0)):
            self.check((("dry", 0, 1010, moist), [paid, (paid * 1250 + 500) // 1000]))
        self.check((("dry", 1, 100, 0), [100, 10000]), (("dry", 1, 100, 1), [99, 9900]),
                   (("dry", 2, 100, 50), [100, 0]), (("dry", 2, 100, 51), [98, 0]))

    def test_nothing_net(self):
        self.check((("dry", 0, 0, 0), [0, 0]), (("dry", 0, 0, 100), [0, 0]))

    def test_the_amount_is_rounded_to_the_nearest(self):
        self.check((("dry", 2, 499, 0), [499, 0]), (("dry", 2, 500, 0), [500, 1]), (("dry", 2, 501, 0), [501, 1]),
                   (("dry", 2, 1499, 0), [1499, 1]), (("dry", 2, 1500, 0), [1500, 2]))

    def test_it_is_as_reckoned_with_fractions(self):
        for kind, price, wet in ((0, 1250, 15), (1, 100000, 0), (2, 1, 50)):
            for net in (1, 99, 12345, 999999):
                got = run(self.start + [("dry", kind, net, moist) for moist in range(101)])[len(self.start):]
                for moist, answer in enumerate(got):
                    paid = floor(net * Fraction(100 - max(moist, wet), 100 - wet))
                    self.assertEqual([paid, floor(Fraction(paid * price, 1000) + Fraction(1, 2))], answer)
                self.assertEqual(sorted(got, reverse=True), got)

    def test_it_is_as_leave_has_it(self):
        for moist in (0, 15, 16, 99, 100):
            got = run(self.start + [("lorry", 9000, 9000)] + trip(0, 0, 0, 0, 5010, 4000, moist)
                      + [("dry", 0, 1010, moist)])
            self.assertEqual([1010] + got[-1], got[-3])

    def test_stock_and_room_do_not_count(self):
        self.check((("dry", 2, 900000, 0), [900000, 900]), (("stock", 2), [0, 10]))


class Yard(LineCase):

    start = MIXED

    def test_none_is_there(self):
        self.check((("begin", 10, 3000, 3, 7), [0]), (("yard",), [0]))

    def test_those_that_are_there(self):
        self.check((("yard",), [2, 4, 6]))

    def test_who_leaves_or_is_called_off_is_no_longer_there(self):
        self.check((("cancel", 4), [4770]), (("yard",), [1, 6]), (("cancel", 6), [4770]), (("yard",), [0]))
        self.check(weighed([4000], 4000), (("leave", 4, 0), [770, 770, 963]), (("yard",), [1, 6]))

    def test_who_comes_again_stands_by_the_new_ticket(self):
        self.check((("cancel", 4), [4770]), weighed([5000], 5000), (("arrive", 3, 0, 0), [8, 5000]),
                   (("yard",), [2, 6, 8]), (("arrive", 0, 0, 0), [9, 5000]), (("yard",), [3, 6, 8, 9]),
                   (("arrive", 1, 0, 0), [-13]), (("yard",), [3, 6, 8, 9]))

    def test_as_many_as_it_holds(self):
        ahead = [("begin", 10, 3000, 8, 7), ("kind", 1, 0, 0)] + [("lorry", 1, 1)] * 9 + [("on", [500])]
        ahead += [("arrive", lorry, 0, 0) for lorry in range(8, 0, -1)]
        self.check_after(ahead, (("yard",), [8, 0, 1, 2, 3, 4, 5, 6, 7]))

    def test_quick_is_never_there(self):
        self.check(weighed([4500], 4500), (("quick", 0, 0, 0, 0), [400, 400, 500, 8]), (("yard",), [2, 4, 6]))


class Look(LineCase):

    start = MIXED

    def test_no_such_ticket(self):
        self.check((("look", 8), [-2]), (("look", 60), [-2]), (("look", BIG), [-2]))
        self.check((("begin", 10, 3000, 3, 7), [0]), (("look", 0), [-2]))

    def test_on_the_yard(self):
        self.check((("look", 4), [0, 3, 0, 0, 4770, 0, 0, 0, 0]), (("look", 6), [0, 2, 1, 1, 4770, 0, 0, 0, 0]))

    def test_done(self):
        self.check((("look", 0), [1, 0, 0, 0, 10000, 4000, 6000, 5929, 7411]),
                   (("look", 2), [1, 1, 0, 1, 4500, 5500, 1000, 1000, 1250]),
                   (("look", 7), [1, 0, 1, 0, 7000, 4100, 2900, 2871, 861]))

    def test_called_off(self):
        self.check((("look", 1), [2, 1, 1, 0, 700, 0, 0, 0, 0]), (("cancel", 6), [4770]),
                   (("look", 6), [2, 2, 1, 1, 4770, 0, 0, 0, 0]))

    def test_of_quick_the_tare_is_first_and_the_weight_second(self):
        self.check((("look", 3), [1, 0, 0, 0, 4000, 4770, 770, 770, 963]),
                   (("look", 5), [1, 1, 0, 1, 4500, 4770, 270, 270, 338]))

    def test_a_refused_leave_leaves_it_as_it_is(self):
        self.check(weighed([4770], 4770), (("leave", 4, 0), [-44]), (("look", 4), [0, 3, 0, 0, 4770, 0, 0, 0, 0]))

    def test_what_comes_later_changes_it_no_more(self):
        self.check((("drift", 20, 50), [0]), (("days", 9), [11]),
                   (("look", 0), [1, 0, 0, 0, 10000, 4000, 6000, 5929, 7411]),
                   (("look", 3), [1, 0, 0, 0, 4000, 4770, 770, 770, 963]))

    def test_the_last_of_60(self):
        ahead = trip(8, 0, 0, 0, 5010, 5000) + [("on", [5010])] + [("quick", 0, 0, 0, 0)] * 51
        self.check_after(ahead, (("look", 59), [1, 0, 0, 0, 5000, 5010, 10, 10, 13]), (("look", 60), [-2]))


class Stock(LineCase):

    start = MIXED

    def test_no_such_kind(self):
        self.check((("stock", 3), [-2]), (("stock", BIG), [-2]))

    def test_how_much_there_is_and_how_much_more_there_may_be(self):
        self.check((("stock", 0), [5500, 14500]), (("stock", 1), [2900, 6100]), (("stock", 2), [0, 0]))

    def test_it_goes_by_what_is_net(self):
        self.check((("begin", 10, 3000, 3, 7), [0]), (("kind", 1, 0, 10000000), [0]), (("stock", 0), [0, 10000000]),
                   (("lorry", 9000, 9000), [0]), weighed([5000], 5000), (("arrive", 0, 0, 0), [0, 5000]), EMPTY,
                   weighed([4000], 4000), (("stock", 0), [0, 10000000]), (("leave", 0, 100), [1000, 0, 0]),
                   (("stock", 0), [1000, 9999000]))

    def test_stock_that_just_fits(self):
        self.check(weighed([9500, 9100], 18600), (("quick", 0, 0, 0, 0), [14500, 14500, 18125, 8]),
                   (("stock", 0), [20000, 0]), EMPTY, weighed([4110], 4110), (("quick", 0, 0, 0, 0), [-75]),
                   (("stock", 0), [20000, 0]))

    def test_stock_that_is_all_fetched(self):
        self.check(weighed([7000], 7000), (("quick", 0, 1, 1, 0), [2900, 2900, 870, 8]), (("stock", 1), [0, 9000]),
                   (("quick", 0, 1, 1, 0), [-33]), (("stock", 1), [0, 9000]))

    def test_called_off_moves_nothing(self):
        self.check((("cancel", 4), [4770]), (("cancel", 6), [4770]), (("stock", 0), [5500, 14500]),
                   (("stock", 1), [2900, 6100]))


class Enough(LineCase):

    start = MIXED

    def test_no_such_kind(self):
        self.check((("enough", 3, 0), [-2]), (("enough", BIG, BIG), [-2]))

    def test_just_enough(self):
        self.check((("enough", 0, 0), [1]), (("enough", 0, 5499), [1]), (("enough", 0, 5500), [1]),
                   (("enough", 0, 5501), [0]), (("enough", 0, BIG), [0]), (("enough", 1, 2900), [1]),
                   (("enough", 1, 2901), [0]))

    def test_where_there_is_nothing(self):
        self.check((("enough", 2, 0), [1]), (("enough", 2, 1), [0]))

    def test_any_n_may_be_asked(self):
        self.check((("enough", 0, 1000001), [0]), (("enough", 0, 10000001), [0]))


class Totals(LineCase):

    start = MIXED

    def test_no_such_kind(self):
        self.check((("totals", 3), [-2]), (("totals", BIG), [-2]))

    def test_of_each_kind(self):
        self.check((("totals", 0), [0, 6770, 1270, 2, 2]), (("totals", 1), [0, 2900, 0, 1, 0]),
                   (("totals", 2), [0, 0, 0, 0, 0]))

    def test_tickets_count_when_they_are_done(self):
        self.check(weighed([4000], 4000), (("leave", 4, 100), [770, 0, 0]), (("totals", 0), [0, 7540, 1270, 3, 2]),
                   EMPTY, weighed([5000], 5000), (("leave", 6, 0), [230, 230, 69]),
                   (("totals", 1), [0, 2900, 230, 1, 1]))

    def test_called_off_ones_do_not(self):
        self.check((("cancel", 4), [4770]), (("cancel", 6), [4770]), (("totals", 0), [0, 6770, 1270, 2, 2]),
                   (("totals", 1), [0, 2900, 0, 1, 0]))


class Trips(LineCase):

    start = MIXED

    def test_no_such_lorry(self):
        self.check((("trips", 4), [-2]), (("trips", BIG), [-2]))

    def test_of_each_lorry(self):
        self.check((("trips", 0), [3, 0, 3, 7]), (("trips", 1), [2, 2, 5]), (("trips", 2), [0]), (("trips", 3), [0]))

    def test_tickets_count_when_they_are_done(self):
        self.check(weighed([4000], 4000), (("leave", 4, 0), [770, 770, 963]), (("trips", 3), [1, 4]),
                   (("cancel", 6), [4770]), (("trips", 2), [0]))

    def test_by_their_numbers_not_by_when_they_left(self):
        self.check(weighed([4500], 4500), (("arrive", 0, 0, 0), [8, 4500]), EMPTY, weighed([4000], 4000),
                   (("leave", 4, 0), [770, 770, 963]), (("arrive", 3, 0, 0), [9, 4000]), (("cancel", 9), [4000]),
                   (("leave", 8, 0), [500, 500, 625]), (("trips", 0), [4, 0, 3, 7, 8]), (("trips", 3), [1, 4]))

    def test_as_many_as_there_can_be(self):
        ahead = [("on", [4110])] + [("quick", 0, 0, 0, 0)] * 52
        self.check_after(ahead, (("trips", 0), [55, 0, 3, 7] + list(range(8, 60))), (("quick", 0, 0, 0, 0), [-13]))


class Money(LineCase):

    start = MIXED

    def test_where_nothing_was_done(self):
        self.check((("begin", 10, 3000, 3, 7), [0]), (("money",), [0, 0, 0]))

    def test_of_all_kinds_together(self):
        self.check((("money",), [0, 7411 + 963 + 861, 1250 + 338]))

    def test_tickets_count_when_they_are_done(self):
        self.check(weighed([4000], 4000), (("leave", 4, 0), [770, 770, 963]), (("money",), [0, 10198, 1588]), EMPTY,
                   weighed([5000], 5000), (("leave", 6, 0), [230, 230, 69]), (("money",), [0, 10198, 1657]))

    def test_called_off_ones_do_not(self):
        self.check((("cancel", 4), [4770]), (("cancel", 6), [4770]), (("money",), [0, 9235, 1588]))

    def test_it_is_by_what_is_paid_for(self):
        self.check(weighed([4000], 4000), (("leave", 4, 100), [770, 0, 0]), (("money",), [0, 9235, 1588]))

    def test_each_amount_is_rounded_by_itself(self):
        ahead = [("begin", 1, 3000, 3, 7), ("kind", 500, 0, 99), ("lorry", 90, 90)] + trip(0, 0, 0, 0, 2, 1)
        ahead += [("on", [2]), ("quick", 0, 0, 0, 0), ("quick", 0, 0, 0, 0), ("quick", 0, 0, 1, 0)]
        self.check_after(ahead, (("money",), [0, 3, 1]))


class Heaviest(LineCase):

    start = MIXED

    def test_none_is_done(self):
        self.check((("begin", 10, 3000, 3, 7), [0]), (("heaviest",), [-6]), (("kind", 1, 0, 9999), [0]),
                   (("lorry", 9000, 9000), [0]), weighed([5000], 5000), (("arrive", 0, 0, 0), [0, 5000]),
                   (("heaviest",), [-6]), (("cancel", 0), [5000]), (("heaviest",), [-6]))

    def test_the_greatest_net(self):
        self.check((("heaviest",), [0, 6000]))

    def test_a_later_one_that_is_greater(self):
        self.check(weighed([9000, 1110], 10110), (("quick", 0, 0, 0, 100), [6010, 0, 0, 8]), (("heaviest",), [8, 6010]))

    def test_one_that_fetched(self):
        ahead = [("begin", 10, 3000, 3, 7), ("kind", 1, 0, 9999), ("lorry", 9000, 9000)]
        ahead += trip(0, 0, 0, 0, 4100, 4000) + [("on", [4110]), ("quick", 0, 0, 0, 0), ("off",), ("on", [4150])]
        self.check_after(ahead, (("heaviest",), [1, 110]), (("quick", 0, 0, 1, 0), [150, 150, 0, 2]),
                         (("heaviest",), [2, 150]))

    def test_of_alike_ones_the_first(self):
        self.check(weighed([9000, 1100], 10100), (("quick", 0, 0, 0, 0), [6000, 6000, 7500, 8]),
                   (("heaviest",), [0, 6000]))
        ahead = [("begin", 10, 3000, 3, 7), ("kind", 1, 0, 9999), ("lorry", 9000, 9000)]
        ahead += trip(0, 0, 0, 0, 4010, 4000) + [("on", [4050])] + [("quick", 0, 0, 0, 0)] * 3
        self.check_after(ahead, (("heaviest",), [1, 50]))

    def test_the_first_is_the_first_ticket_not_the_first_that_left(self):
        ahead = [("begin", 10, 3000, 3, 7), ("kind", 1, 0, 9999), ("lorry", 9000, 9000), ("lorry", 9000, 9000)]
        ahead += [("on", [5000]), ("arrive", 0, 0, 0), ("arrive", 1, 0, 0), ("off",), ("on", [4000]), ("leave", 1, 0)]
        self.check_after(ahead, (("heaviest",), [1, 1000]), (("leave", 0, 0), [1000, 1000, 1]),
                         (("heaviest",), [0, 1000]))

    def test_weights_do_not_count_but_what_is_net(self):
        self.check(weighed([9000, 9000], 18000), (("arrive", 0, 0, 0), [8, 18000]), (("heaviest",), [0, 6000]), EMPTY,
                   weighed([9000, 8900], 17900), (("leave", 8, 0), [100, 100, 125]), (("heaviest",), [0, 6000]))

    def test_called_off_ones_do_not_count(self):
        self.check(weighed([9000, 9000], 18000), (("arrive", 0, 0, 0), [8, 18000]), (("cancel", 8), [18000]),
                   (("heaviest",), [0, 6000]))


class Sums(LineCase):

    start = MIXED

    def test_where_there_is_nothing(self):
        self.check((("begin", 10, 3000, 3, 7), [0]), (("sums",), [0, 0, 0, 0]))

    def test_of_all(self):
        self.check((("sums",), [0, 8400, 5, 1]))

    def test_called_off(self):
        self.check((("cancel", 4), [4770]), (("sums",), [0, 8400, 5, 2]), (("cancel", 6), [4770]),
                   (("sums",), [0, 8400, 5, 3]))

    def test_done(self):
        self.check(weighed([4000], 4000), (("leave", 4, 50), [770, 452, 565]), (("sums",), [0, 9170, 6, 1]), EMPTY,
                   weighed([4400], 4400), (("quick", 0, 1, 1, 0), [300, 300, 90, 8]), (("sums",), [0, 8870, 7, 1]))


class State(LineCase):

    start = MIXED

    def test_of_a_new_yard(self):
        self.check((("begin", 10, 3000, 3, 7), [0]), (("state",), [0, 0, 0, 0, 0, 0, 0, 0]))

    def test_of_all(self):
        self.check((("state",), [0, 2, 3, 4, 8, 2, 0, 0]))

    def test_each_number_by_itself(self):
        self.check((("days", 5), [7]), (("state",), [0, 7, 3, 4, 8, 2, 0, 0]),
                   (("kind", 1, 0, 0), [3]), (("state",), [0, 7, 4, 4, 8, 2, 0, 0]),
                   (("lorry", 1, 1), [4]), (("state",), [0, 7, 4, 5, 8, 2, 0, 0]),
                   (("cancel", 4), [4770]), (("state",), [0, 7, 4, 5, 8, 1, 0, 0]),
                   (("drift", 0, 33), [0]), (("state",), [0, 7, 4, 5, 8, 1, 0, 0]),
                   (("zero",), [0, 33]), (("state",), [0, 7, 4, 5, 8, 1, 0, 33]),
                   (("on", [4500, 3]), [0, 4500]), (("state",), [0, 7, 4, 5, 8, 1, 4503, 33]),
                   (("quick", 0, 0, 0, 0), [400, 400, 500, 8]), (("state",), [0, 7, 4, 5, 9, 1, 4503, 33]),
                   (("arrive", 0, 0, 0), [9, 4500]), (("state",), [0, 7, 4, 5, 10, 2, 4503, 33]),
                   (("off",), [0, 0]), (("state",), [0, 7, 4, 5, 10, 2, 0, 33]))

    def test_the_load_is_told_as_it_really_is(self):
        self.check((("drift", -20, 100), [0]), (("on", [50000, 50000, 7]), [0, 98110]),
                   (("state",), [0, 2, 3, 4, 8, 2, 100007, 0]))

    def test_a_load_of_0(self):
        self.check((("on", [0, 0]), [0, 0]), (("state",), [0, 2, 3, 4, 8, 2, 0, 0]))

    def test_a_zero_below_0(self):
        self.check((("drift", 0, -600), [0]), (("zero",), [0, -600]), (("state",), [0, 2, 3, 4, 8, 2, 0, -600]),
                   (("drift", 0, -601), [0]), (("zero",), [-33]), (("state",), [0, 2, 3, 4, 8, 2, 0, -600]))
