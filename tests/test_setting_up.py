"""Point 1: begin, kind, lorry."""

from tests.lines import BIG, NAMES, TELLING, LineCase, run, trip


class Begin(LineCase):

    start = []

    def test_begins(self):
        self.check((("begin", 10, 3000, 3, 7), [0]))

    def test_edges_that_are_taken(self):
        for given in ((1, 100, 1, 0), (100, 5000, 8, 365), (1, 5000, 1, 365), (100, 100, 8, 0)):
            self.assertEqual([[0]], run([("begin",) + given]), given)

    def test_each_argument_out_of_range(self):
        for given in ((0, 3000, 3, 7), (101, 3000, 3, 7), (BIG, 3000, 3, 7),
                      (10, 99, 3, 7), (10, 5001, 3, 7), (10, 0, 3, 7), (10, BIG, 3, 7),
                      (10, 3000, 0, 7), (10, 3000, 9, 7), (10, 3000, BIG, 7),
                      (10, 3000, 3, 366), (10, 3000, 3, BIG), (0, 0, 0, BIG)):
            self.assertEqual([[-22]], run([("begin",) + given]), given)

    def test_the_most_is_step_times_steps(self):
        for step, steps in ((1, 100), (7, 333), (100, 5000)):
            got = run([("begin", step, steps, 1, 0), ("test", step * steps), ("test", step * steps + 1)])
            self.assertEqual([[0], [1, step * steps, 0], [-22]], got)

    def test_a_second_begin_makes_everything_new(self):
        self.check(
            (("begin", 10, 3000, 1, 7), [0]),
            (("kind", 1000, 15, 50000), [0]),
            (("lorry", 9000, 40000), [0]),
            (("drift", 5, 300), [0]),
            (("zero",), [0, 300]),
            (("days", 3), [3]),
            (("on", [8000, 2000]), [0, 10050]),
            (("arrive", 0, 0, 0), [0, 10050]),
            (("off",), [0, 0]),
            (("on", [4000]), [0, 4020]),
            (("leave", 0, 0), [6030, 6030, 6030]),
            (("arrive", 0, 0, 0), [1, 4020]),
            (("begin", 20, 2000, 1, 0), [0]),
            (("off",), [-6]),
            (("show",), [0, 0]),
            (("zero",), [0, 0]),
            (("days", 1), [1]),
            (("on", [5005]), [0, 5000]),
            (("arrive", 0, 0, 0), [-2]),
            (("leave", 0, 0), [-2]),
            (("cancel", 1), [-2]),
            (("kind", 1000, 15, 50000), [0]),
            (("lorry", 9000, 40000), [0]),
            (("quick", 0, 0, 0, 0), [-61]),
            (("arrive", 0, 0, 1), [0, 5000]),
            (("off",), [0, 0]),
            (("on", [5025]), [0, 5020]),
            (("leave", 0, 0), [-33]),
            (("cancel", 0), [5000]),
        )

    # All that points 6 and 7 tell of a yard with one kind, one lorry and one ticket.
    looks = (("tare", 0), ("odd", 0), ("excess", 0), ("fits", 0), ("dry", 0, 1000, 20), ("yard",), ("look", 0),
             ("stock", 0), ("enough", 0, 1000), ("totals", 0), ("trips", 0), ("money",), ("heaviest",), ("sums",),
             ("state",))

    def used(self):
        calls = [("begin", 10, 3000, 3, 7), ("kind", 1250, 15, 50000), ("lorry", 9000, 40000), ("drift", 0, 300),
                 ("zero",), ("days", 3)] + trip(0, 0, 0, 0, 5000, 4000) + trip(1, 0, 0, 0, 5000, 3000)
        return calls + [("on", [6000]), ("arrive", 0, 0, 0)]

    def test_a_second_begin_makes_all_that_is_told_new(self):
        self.assertEqual(list(TELLING), [look[0] for look in self.looks])
        got = run(self.used() + list(self.looks))[-len(self.looks):]
        self.assertEqual([[3000, 0, 1], [1, -1000], [1, 0, 0], [34000], [941, 1176], [1, 2],
                          [1, 0, 0, 0, 5000, 4000, 1000, 1000, 1250], [3000, 47000], [1], [0, 3000, 0, 2, 0],
                          [2, 0, 1], [0, 3750, 0], [1, 2000], [0, 3000, 2, 0], [0, 3, 1, 1, 3, 1, 6000, 300]], got)
        got = run(self.used() + [("begin", 20, 2000, 1, 0)] + list(self.looks))[-len(self.looks):]
        self.assertEqual([[-2], [-2], [-2], [-2], [-2], [0], [-2], [-2], [-2], [-2], [-2], [0, 0, 0], [-6],
                          [0, 0, 0, 0], [0, 0, 0, 0, 0, 0, 0, 0]], got)
        anew = [("begin", 20, 2000, 1, 0), ("kind", 100, 0, 500), ("lorry", 800, 900)]
        got = run(self.used() + anew + list(self.looks))[-len(self.looks):]
        self.assertEqual([[-6], [-6], [-6], [-6], [800, 80], [0], [-2], [0, 500], [0], [0, 0, 0, 0, 0], [0],
                          [0, 0, 0], [-6], [0, 0, 0, 0], [0, 0, 1, 1, 0, 0, 0, 0]], got)

    def test_a_refused_begin_leaves_all_that_is_told(self):
        looks = list(self.looks)
        kept = run(self.used() + looks)[-len(looks):]
        for refused in (("begin", 0, 3000, 3, 7), ("begin", 10, 3000, 9, 7), ("begin", 10, 3000, 3, 366)):
            self.assertEqual(kept, run(self.used() + [refused] + looks)[-len(looks):])

    def test_a_refused_begin_leaves_everything(self):
        self.check(
            (("begin", 10, 3000, 3, 7), [0]),
            (("kind", 1000, 15, 50000), [0]),
            (("lorry", 9000, 40000), [0]),
            (("on", [700]), [0, 700]),
            (("begin", 0, 3000, 3, 7), [-22]),
            (("on", [5]), [-16]),
            (("arrive", 0, 0, 0), [0, 700]),
            (("begin", 10, 3000, 3, 366), [-22]),
            (("cancel", 0), [700]),
            (("kind", 1000, 15, 50000), [1]),
            (("lorry", 9000, 40000), [1]),
        )


class BeforeBegin(LineCase):

    start = []

    others = (("kind", 1000, 15, 50000), ("lorry", 9000, 40000), ("drift", 1, 1), ("on", [5, 6]), ("on", []),
              ("on", [65535] * 40), ("off",), ("show",), ("zero",), ("test", 10), ("allowed", 10),
              ("arrive", 0, 0, 0), ("leave", 0, 0), ("quick", 0, 0, 0, 0), ("cancel", 0), ("days", 1),
              ("tare", 0), ("odd", 0), ("excess", 0), ("fits", 0), ("dry", 0, 100, 10), ("yard",), ("look", 0),
              ("stock", 0), ("enough", 0, 0), ("totals", 0), ("trips", 0), ("money",), ("heaviest",), ("sums",),
              ("state",))

    def test_these_are_all_others(self):
        self.assertEqual(set(NAMES) - {"begin"}, {call[0] for call in self.others})

    def test_every_other_call_alone(self):
        for call in self.others:
            self.assertEqual([[-11]], run([call]), call)

    def test_wrong_arguments_are_not_looked_at(self):
        for call in (("kind", 0, BIG, BIG), ("lorry", 0, 0), ("drift", -2147483648, 2147483647), ("test", 0),
                     ("arrive", BIG, BIG, BIG), ("leave", BIG, BIG), ("quick", BIG, BIG, BIG, BIG),
                     ("cancel", BIG), ("days", 0), ("tare", BIG), ("odd", BIG), ("excess", BIG), ("fits", BIG),
                     ("dry", BIG, BIG, BIG), ("look", BIG), ("stock", BIG), ("enough", BIG, BIG), ("totals", BIG),
                     ("trips", BIG)):
            self.assertEqual([[-11]], run([call]), call)

    def test_a_refused_begin_does_not_count(self):
        for call in self.others:
            self.assertEqual([[-22], [-11]], run([("begin", 0, 3000, 3, 7), call]), call)

    def test_what_came_before_has_done_nothing(self):
        calls = list(self.others) + [("begin", 10, 3000, 3, 7), ("on", [20]), ("kind", 1, 0, 0), ("days", 1)]
        self.assertEqual([[0], [0, 20], [0], [1]], run(calls)[len(self.others):])


class Kind(LineCase):

    def test_numbers_from_0(self):
        self.check((("kind", 1, 0, 0), [0]), (("kind", 100000, 50, 10000000), [1]), (("kind", 5, 6, 7), [2]))

    def test_each_argument_out_of_range(self):
        for given in ((0, 0, 0), (100001, 0, 0), (BIG, 0, 0), (1, 51, 0), (1, BIG, 0), (1, 0, 10000001), (1, 0, BIG)):
            self.check((("kind",) + given, [-22]), (("kind", 1, 0, 0), [0]))

    def test_there_are_six_at_most(self):
        six = [(("kind", 1, 0, 0), [number]) for number in range(6)]
        self.check(*six, (("kind", 1, 0, 0), [-28]), (("kind", 1, 0, 0), [-28]), (("lorry", 1, 1), [0]))

    def test_out_of_range_is_told_before_too_many(self):
        six = [(("kind", 1, 0, 0), [number]) for number in range(6)]
        self.check(*six, (("kind", 0, 0, 0), [-22]), (("kind", 1, 51, 0), [-22]), (("kind", 1, 0, 10000001), [-22]))


class Lorry(LineCase):

    def test_numbers_from_0(self):
        self.check((("lorry", 1, 1), [0]), (("lorry", 20000, 100000), [1]), (("lorry", 9000, 40000), [2]))

    def test_each_argument_out_of_range(self):
        for given in ((0, 1), (20001, 1), (BIG, 1), (1, 0), (1, 100001), (1, BIG), (0, 0)):
            self.check((("lorry",) + given, [-22]), (("lorry", 1, 1), [0]))

    def test_there_are_twelve_at_most(self):
        twelve = [(("lorry", 1, 1), [number]) for number in range(12)]
        self.check(*twelve, (("lorry", 1, 1), [-28]), (("lorry", 1, 1), [-28]), (("kind", 1, 0, 0), [0]))

    def test_out_of_range_is_told_before_too_many(self):
        twelve = [(("lorry", 1, 1), [number]) for number in range(12)]
        self.check(*twelve, (("lorry", 0, 1), [-22]), (("lorry", 1, 100001), [-22]))

    def test_a_new_lorry_has_no_tare(self):
        self.check((("kind", 1, 0, 9), [0]), (("lorry", 1, 1), [0]), (("on", [50]), [0, 50]),
                   (("quick", 0, 0, 0, 0), [-61]))
