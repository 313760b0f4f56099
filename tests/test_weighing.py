"""Point 2: drift, on, off, show, zero, test, allowed."""

from fractions import Fraction
from math import floor

from tests.lines import BIG, LineCase, run


def shown(step, felt):
    """The whole steps nearest to what is felt, half-way up, reckoned with fractions."""
    return floor(Fraction(felt, step) + Fraction(1, 2)) * step


class Drift(LineCase):

    def test_edges_that_are_taken(self):
        for given in ((-20, -2000), (20, 2000), (0, 0), (-20, 2000)):
            self.check((("drift",) + given, [0]))

    def test_each_argument_out_of_range(self):
        for given in ((-21, 0), (21, 0), (0, -2001), (0, 2001), (-2147483648, 0), (2147483647, 0),
                      (0, -2147483648), (0, 2147483647)):
            self.check((("drift", 10, 100), [0]), (("drift",) + given, [-22]), (("test", 1000), [0, 1110, 110]))

    def test_new_errors_take_the_place_of_the_old(self):
        self.check((("drift", 10, 100), [0]), (("drift", -10, 0), [0]), (("test", 1000), [0, 990, -10]))

    def test_they_may_change_under_a_load(self):
        self.check((("on", [1000]), [0, 1000]), (("drift", 20, -10), [0]), (("show",), [0, 1010]))

    def test_what_is_felt_is_rounded_down(self):
        self.check(
            (("drift", 1, 0), [0]), (("test", 999), [1, 1000, 0]), (("test", 1000), [1, 1000, 1]),
            (("drift", -1, 0), [0]), (("test", 1), [1, 0, -1]), (("test", 1000), [1, 1000, -1]),
            (("test", 1001), [1, 1000, -2]),
        )

    def test_the_offset_comes_after_the_rounding(self):
        self.check((("drift", -1, 5), [0]), (("test", 1), [1, 10, 4]))
        self.check((("drift", -1, -5), [0]), (("test", 1), [0, 0, -6]))


class OnAndOff(LineCase):

    def test_the_load_is_all_axles_together(self):
        self.check((("on", [1000, 200, 30, 4, 0, 1]), [0, 1240]), (("off",), [0, 0]), (("on", [7]), [0, 10]))

    def test_from_one_to_six_axles(self):
        for many in range(41):
            wanted = [0, 10 * many] if 1 <= many <= 6 else [-22]
            self.check((("on", [10] * many), wanted))

    def test_an_axle_of_50000_just(self):
        self.check((("on", [50000, 50000, 50000, 50000, 50000, 50000]), [0, 300000]))
        self.check((("on", [50001]), [-22]), (("on", [1, 2, 65535]), [-22]), (("on", [50001, 1]), [-22]),
                   (("off",), [-6]))

    def test_a_load_of_0_is_something(self):
        self.check((("on", [0]), [0, 0]), (("on", [5]), [-16]), (("zero",), [-16]), (("test", 5), [-16]),
                   (("off",), [0, 0]), (("off",), [-6]))

    def test_something_on_it_is_told_before_wrong_axles(self):
        self.check((("on", [5]), [0, 10]), (("on", [5]), [-16]), (("on", []), [-16]), (("on", [65535]), [-16]),
                   (("on", [1] * 40), [-16]), (("show",), [0, 10]))

    def test_off_shows_what_is_shown_of_nothing(self):
        self.check((("drift", 0, -26), [0]), (("on", [500]), [0, 470]), (("off",), [0, -30]))

    def test_too_much_is_still_told_by_on_and_off(self):
        self.check((("on", [50000]), [0, 50000]), (("show",), [-28]))
        got = run([("begin", 1, 100, 1, 0), ("drift", 0, 2000), ("on", [1]), ("off",), ("show",)])
        self.assertEqual([[0], [0], [0, 2001], [0, 2000], [-28]], got)


class Show(LineCase):

    def test_half_way_is_shown_as_the_greater(self):
        for load, wanted in ((4, 0), (5, 10), (14, 10), (15, 20), (16, 20)):
            self.check((("on", [load]), [0, wanted]), (("show",), [0, wanted]))

    def test_half_way_below_0(self):
        for offset, wanted in ((-4, 0), (-5, 0), (-6, -10), (-14, -10), (-15, -10), (-16, -20), (-25, -20), (-26, -30)):
            self.check((("drift", 0, offset), [0]), (("show",), [0, wanted]))

    def test_a_step_that_is_odd_has_no_half_way(self):
        for offset in range(-20, 21):
            got = run([("begin", 7, 3000, 3, 7), ("drift", 0, offset), ("show",)])
            self.assertEqual([0, shown(7, offset)], got[2], offset)

    def test_a_step_of_1_shows_what_is_felt(self):
        for offset in (-2000, -1, 0, 1, 2000):
            got = run([("begin", 1, 3000, 3, 7), ("drift", 0, offset), ("show",)])
            self.assertEqual([0, offset], got[2])

    def test_nine_steps_above_the_most_just(self):
        self.check((("on", [30090]), [0, 30090]), (("show",), [0, 30090]))
        self.check((("on", [30094]), [0, 30090]), (("show",), [0, 30090]))
        self.check((("on", [30095]), [0, 30100]), (("show",), [-28]))

    def test_nothing_on_it_may_be_too_much(self):
        got = run([("begin", 1, 100, 1, 0), ("drift", 0, 109), ("show",), ("drift", 0, 110), ("show",)])
        self.assertEqual([[0], [0], [0, 109], [0], [-28]], got)

    def test_it_never_refuses_for_nothing_on_it_or_0(self):
        self.check((("show",), [0, 0]), (("drift", 0, -300), [0]), (("show",), [0, -300]),
                   (("on", [3]), [0, -300]), (("show",), [0, -300]))


class Zero(LineCase):

    def test_what_it_felt_before_is_told(self):
        self.check((("drift", 0, 123), [0]), (("zero",), [0, 123]), (("show",), [0, 0]), (("zero",), [0, 0]),
                   (("drift", 0, 100), [0]), (("show",), [0, -20]), (("zero",), [0, -23]), (("show",), [0, 0]))

    def test_a_50th_off_just(self):
        self.check((("drift", 0, 600), [0]), (("zero",), [0, 600]), (("show",), [0, 0]))
        self.check((("drift", 0, 601), [0]), (("zero",), [-33]), (("show",), [0, 600]))
        self.check((("drift", 0, -600), [0]), (("zero",), [0, -600]), (("show",), [0, 0]))
        self.check((("drift", 0, -601), [0]), (("zero",), [-33]), (("show",), [0, -600]))

    def test_a_50th_that_is_no_whole_number(self):
        for offset, wanted in ((2, [0, 2]), (3, [-33]), (-2, [0, -2]), (-3, [-33])):
            got = run([("begin", 1, 149, 1, 0), ("drift", 0, offset), ("zero",)])
            self.assertEqual(wanted, got[2], offset)

    def test_the_zero_before_does_not_count_for_the_50th(self):
        self.check((("drift", 0, 600), [0]), (("zero",), [0, 600]), (("drift", 0, 601), [0]), (("show",), [0, 0]),
                   (("zero",), [-33]), (("drift", 0, -600), [0]), (("zero",), [0, -1200]), (("show",), [0, 0]))

    def test_a_refused_zero_keeps_the_one_before(self):
        self.check((("drift", 0, 600), [0]), (("zero",), [0, 600]), (("drift", 0, 700), [0]), (("zero",), [-33]),
                   (("show",), [0, 100]))

    def test_something_on_it_is_told_first(self):
        self.check((("drift", 0, 2000), [0]), (("on", [0]), [0, 2000]), (("zero",), [-16]), (("off",), [0, 2000]),
                   (("zero",), [-33]))

    def test_the_zero_counts_for_a_load(self):
        self.check((("drift", 10, 250), [0]), (("zero",), [0, 250]), (("on", [2000]), [0, 2020]))


class Test(LineCase):

    def test_without_errors(self):
        self.check((("test", 1), [1, 0, 0]), (("test", 5), [1, 10, 0]), (("test", 30000), [1, 30000, 0]))

    def test_a_weight_that_cannot_be(self):
        self.check((("test", 0), [-22]), (("test", 30001), [-22]), (("test", BIG), [-22]))

    def test_something_on_it_is_told_first(self):
        self.check((("on", [5]), [0, 10]), (("test", 0), [-16]), (("test", 30001), [-16]), (("test", 100), [-16]))

    def test_nothing_is_on_it_afterwards(self):
        self.check((("test", 700), [1, 700, 0]), (("show",), [0, 0]), (("off",), [-6]))

    def test_500_steps_just_may_be_half_a_step_wrong(self):
        for offset, at, above in ((5, 1, 1), (6, 0, 1), (-5, 1, 1), (-6, 0, 1)):
            self.check((("drift", 0, offset), [0]),
                       (("test", 5000), [at, shown(10, 5000 + offset), offset]),
                       (("test", 5001), [above, shown(10, 5001 + offset), offset]))

    def test_2000_steps_just_may_be_one_step_wrong(self):
        for offset, at, above in ((10, 1, 1), (11, 0, 1), (15, 0, 1), (16, 0, 0), (-10, 1, 1), (-11, 0, 1), (-15, 0, 1),
                                  (-16, 0, 0)):
            self.check((("drift", 0, offset), [0]),
                       (("test", 20000), [at, shown(10, 20000 + offset), offset]),
                       (("test", 20001), [above, shown(10, 20001 + offset), offset]))

    def test_half_of_an_odd_step(self):
        for offset, wanted in ((3, 1), (4, 0), (-3, 1), (-4, 0)):
            got = run([("begin", 7, 3000, 3, 7), ("drift", 0, offset), ("test", 700)])
            self.assertEqual([wanted, shown(7, 700 + offset), offset], got[2])

    def test_what_is_wrong_is_told_of_what_it_feels_less_its_zero(self):
        self.check((("drift", 2, 300), [0]), (("zero",), [0, 300]), (("test", 2500), [1, 2510, 5]),
                   (("test", 3000), [0, 3010, 6]))


class Allowed(LineCase):

    def test_the_edges(self):
        for weight, wanted in ((0, 1), (1, 1), (5000, 1), (5001, 2), (20000, 2), (20001, 3), (30001, 3), (BIG, 3)):
            self.check((("allowed", weight), [wanted]))

    def test_they_go_by_the_step(self):
        for step in (1, 3, 100):
            got = run([("begin", step, 3000, 3, 7), ("allowed", 500 * step), ("allowed", 500 * step + 1),
                       ("allowed", 2000 * step), ("allowed", 2000 * step + 1)])
            self.assertEqual([[0], [1], [2], [2], [3]], got)

    def test_neither_errors_nor_a_load_count(self):
        self.check((("drift", 20, 2000), [0]), (("on", [9]), [0, 2010]), (("allowed", 5000), [1]))


class WhatHolds(LineCase):

    def test_heavier_never_shows_less(self):
        for step in (1, 2, 7, 10, 100):
            for gain, offset in ((-20, -3), (-1, 0), (0, 0), (7, 11), (20, 2000)):
                calls = [("begin", step, 5000, 3, 7), ("drift", gain, offset)]
                calls += [("test", weight) for weight in range(1, 240)]
                seen = [answer[1] for answer in run(calls)[2:]]
                self.assertEqual(sorted(seen), seen)

    def test_without_errors_it_is_right_by_half_a_step(self):
        for step in (1, 2, 7, 10, 99, 100):
            got = run([("begin", step, 5000, 3, 7)] + [("test", weight) for weight in range(1, 250)])[1:]
            for weight, answer in zip(range(1, 250), got):
                self.assertLessEqual(2 * abs(answer[1] - weight), step)
                self.assertEqual(0, answer[2])

    def test_it_is_as_reckoned_with_fractions(self):
        for step in (1, 3, 10, 64):
            for gain, offset in ((-20, -1999), (-13, 17), (1, -1), (20, 45)):
                weights = range(1, 5000, 37)
                calls = [("begin", step, 5000, 3, 7), ("drift", gain, offset)]
                got = run(calls + [("test", weight) for weight in weights])[2:]
                for weight, answer in zip(weights, got):
                    felt = floor(Fraction(weight * (1000 + gain), 1000)) + offset
                    self.assertEqual([shown(step, felt), felt - weight], answer[1:])
