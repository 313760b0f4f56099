"""What holds of whole lines: their form, and that what's refused, and looking, changes nothing."""

import unittest

from tests.lines import BIG, LOOKING, NAMES, TELLING, line_of, random_calls, run, trip, written
from weighbridge.scale import Line, answers, ask


class Form(unittest.TestCase):

    def test_how_many_are_answered_then_these(self):
        self.assertEqual([1, 0, 2, 0, 0, 1, -6, 3, 1, 100, 0, 1, 1],
                         answers([0, 10, 3000, 3, 7, 6, 5, 8, 100, 9, 100]))

    def test_how_each_call_stands_in_the_list(self):
        line = [0, 10, 3000, 3, 7] + [1, 1250, 15, 20000] + [2, 9000, 20000] + [3, 0, 3] + [7]
        line += [4, 2, 9000, 1000] + [6] + [10, 0, 0, 0] + [5] + [4, 1, 4000] + [11, 0, 16] + [12, 0, 0, 0, 0]
        line += [5] + [4, 0] + [8, 500] + [9, 6000] + [4, 3, 4000, 0, 40] + [12, 0, 0, 1, 0] + [13, 0] + [14, 30]
        wanted = [1, 0] + [1, 0] + [1, 0] + [1, 0] + [2, 0, 3]
        wanted += [2, 0, 10000] + [2, 0, 10000] + [2, 0, 10000] + [2, 0, 0] + [2, 0, 4000]
        wanted += [3, 6000, 5929, 7411] + [1, -44]
        wanted += [2, 0, 0] + [1, -22] + [3, 1, 500, 0] + [1, 2] + [2, 0, 4040] + [4, 40, 40, 50, 1]
        wanted += [1, -17] + [1, 30]
        self.assertEqual(wanted, answers(line))

    def test_how_each_call_that_tells_stands_in_the_list(self):
        line = [0, 10, 3000, 3, 7] + [1, 1250, 15, 20000] + [2, 9000, 20000] + [4, 2, 9000, 1000] + [10, 0, 0, 0]
        line += [5] + [4, 1, 4000] + [11, 0, 16] + [15, 0] + [16, 0] + [17, 0] + [18, 0] + [19, 0, 100, 20] + [20]
        line += [21, 0] + [22, 0] + [23, 0, 6001] + [24, 0] + [25, 0] + [26] + [27] + [28] + [29]
        wanted = [1, 0] + [1, 0] + [1, 0] + [2, 0, 10000] + [2, 0, 10000]
        wanted += [2, 0, 0] + [2, 0, 4000] + [3, 6000, 5929, 7411] + [3, 4000, 0, 1] + [1, -6] + [3, 1, 0, 0]
        wanted += [1, 16000] + [2, 94, 118] + [1, 0]
        wanted += [9, 1, 0, 0, 0, 10000, 4000, 6000, 5929, 7411] + [2, 6000, 14000] + [1, 0] + [5, 0, 6000, 0, 1, 0]
        wanted += [2, 1, 0] + [3, 0, 7411, 0] + [2, 0, 6000] + [4, 0, 6000, 1, 0] + [8, 0, 0, 1, 1, 1, 0, 4000, 0]
        self.assertEqual(wanted, answers(line))

    def test_a_line_of_256_calls_is_answered_whole(self):
        for seed in range(20):
            calls = random_calls(seed)
            self.assertEqual(256, len(calls))
            self.assertEqual(256, len(run(calls)))
        ahead = [("begin", 10, 3000, 3, 7), ("kind", 1250, 15, 20000), ("lorry", 9000, 20000)]
        ahead += trip(0, 0, 0, 0, 4010, 4000) + [("on", [4010])] + [("quick", 0, 0, 0, 0)] * 59
        got = run(ahead + [("trips", 0)] * (256 - len(ahead)))
        self.assertEqual(256, len(got))
        self.assertEqual([[60] + list(range(60))] * (256 - len(ahead)), got[len(ahead):])

    def test_256_refused_calls(self):
        self.assertEqual([1, -11] * 256, answers([29] * 256))
        self.assertEqual([1, -11] * 256, answers(([4, 40] + [65535] * 40) * 256))

    def test_the_greatest_arguments(self):
        calls = [("begin", 10, 3000, 3, 7), ("tare", BIG), ("odd", BIG), ("excess", BIG), ("fits", BIG),
                 ("dry", BIG, BIG, BIG), ("look", BIG), ("stock", BIG), ("enough", BIG, BIG), ("totals", BIG),
                 ("trips", BIG)]
        self.assertEqual([[0]] + [[-2]] * 10, run(calls))

    def test_a_row_of_40(self):
        self.assertEqual([1, 0, 1, -22, 2, 0, 0], answers([0, 10, 3000, 3, 7, 4, 40] + [6] * 40 + [6]))

    def test_what_is_handed_in_is_as_it_was(self):
        for seed in range(20):
            line = line_of(random_calls(seed))
            before = list(line)
            answers(line)
            self.assertEqual(before, line)

    def test_what_is_given_back_is_the_callers_own(self):
        line = line_of(random_calls(1))
        first = answers(line)
        kept = list(first)
        first.clear()
        self.assertEqual(kept, answers(line))

    def test_a_second_time_is_as_the_first(self):
        lines = [line_of(random_calls(seed)) for seed in range(20)]
        first = [answers(line) for line in lines]
        self.assertEqual(first, [answers(line) for line in lines])
        self.assertEqual([1, -11], answers([6]))

    def test_whole_numbers_alone(self):
        for seed in range(20):
            given = answers(line_of(random_calls(seed)))
            self.assertIs(list, type(given))
            self.assertEqual({int}, {type(number) for number in given})

    def test_as_many_answers_as_the_words_tell(self):
        behind = {"on": 1, "off": 1, "show": 1, "zero": 1, "test": 2, "arrive": 1, "leave": 2, "quick": 3,
                  "tare": 2, "odd": 1, "excess": 2, "dry": 1, "look": 8, "stock": 1, "totals": 4, "money": 2,
                  "heaviest": 1, "sums": 3, "state": 7}
        for seed in range(60):
            calls = random_calls(seed)
            got = run(calls)
            self.assertEqual(len(calls), len(got))
            for call, answer in zip(calls, got):
                # Of yard and trips the number itself tells how many stand behind it.
                more = answer[0] if call[0] in ("yard", "trips") else behind.get(call[0], 0)
                self.assertEqual(1 if answer[0] < 0 else 1 + more, len(answer), call)


def picture(value):
    """All that an object holds, as lists and dicts of its own."""
    if isinstance(value, list):
        return [picture(member) for member in value]
    if hasattr(value, "__dict__"):
        return {name: picture(member) for name, member in vars(value).items()}
    return value


class NothingChanges(unittest.TestCase):

    def test_the_lines_reach_every_call_both_ways(self):
        seen = set()
        for seed in range(60):
            calls = random_calls(seed) + [("begin", 0, 0, 0, 0)]
            seen |= {(call[0], answer[0] < 0) for call, answer in zip(calls, run(calls))}
        self.assertEqual({(name, refused) for name in NAMES for refused in (False, True)} - {("allowed", True)},
                         seen - {("allowed", True)})

    def check_without(self, left_out):
        for seed in range(60):
            calls = random_calls(seed)
            pairs = list(zip(calls, run(calls)))
            kept = [pair for pair in pairs if not left_out(pair)]
            self.assertEqual([pair[1] for pair in kept], run([pair[0] for pair in kept]), seed)

    def test_refused_calls_change_nothing(self):
        self.check_without(lambda pair: pair[1][0] < 0)

    def test_looking_changes_nothing(self):
        self.check_without(lambda pair: pair[0][0] in LOOKING)

    def test_refused_and_looking_leave_the_object_as_it_was(self):
        seen = set()
        for seed in range(20):
            line = Line()
            for call in random_calls(seed):
                before = picture(line)
                numbers = written(call)
                answer = ask(line, numbers[0], numbers[1:])
                if answer[0] < 0 or call[0] in LOOKING:
                    self.assertEqual(before, picture(line), call)
                else:
                    seen.add(call[0])
                    # A call that isn't one of these can be told by what it leaves, but where it sets what stood there.
                    self.assertTrue(call[0] in ("drift", "zero", "begin") or before != picture(line), call)
        self.assertEqual(set(NAMES) - set(LOOKING), seen)

    def test_every_look_again_and_again_tells_the_same(self):
        for seed in range(20):
            looks = [call for call in random_calls(seed) if call[0] in TELLING][:40]
            ahead = random_calls(seed)[:256 - 2 * len(looks)]
            got = run(ahead + looks + looks)[len(ahead):]
            self.assertEqual(got[:len(looks)], got[len(looks):])

    def test_a_begin_makes_everything_new(self):
        for seed in range(40):
            after = [("begin", 10, 3000, 3, 7)] + random_calls(seed + 1000)[:120]
            got = run(random_calls(seed)[:100] + after)
            self.assertEqual(run(after), got[100:])


if __name__ == "__main__":
    unittest.main()
