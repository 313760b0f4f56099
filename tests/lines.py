"""Calls as the tests write them, and answers as the tests read them."""

import unittest

from weighbridge.scale import answers

NAMES = ("begin", "kind", "lorry", "drift", "on", "off", "show", "zero", "test", "allowed",
         "arrive", "leave", "quick", "cancel", "days")
BIG = 4294967295


def written(call):
    """A call such as ("arrive", 0, 0, 1) or ("on", [900, 50]) as the numbers of a line."""
    number = NAMES.index(call[0])
    if call[0] == "on":
        return [number, len(call[1])] + list(call[1])
    return [number] + list(call[1:])


def line_of(calls):
    return [number for call in calls for number in written(call)]


def parted(flat):
    """The answers of each call by themselves."""
    parts = []
    at = 0
    while at < len(flat):
        parts.append(flat[at + 1:at + 1 + flat[at]])
        at += 1 + flat[at]
    return parts


def run(calls):
    return parted(answers(line_of(calls)))


# A step that takes the load off a scale that shows 0 then.
EMPTY = (("off",), [0, 0])


def weighed(axles, shown):
    """A step that puts a load on the empty scale."""
    return (("on", axles), [0, shown])


class LineCase(unittest.TestCase):

    # What most tests begin with: a step of 10 up to 30,000, three on the yard, tares good for 7 days.
    start = [("begin", 10, 3000, 3, 7)]

    def check(self, *steps):
        """Each step is a call and what it answers; they stand behind what the class starts with."""
        calls = self.start + [step[0] for step in steps]
        got = run(calls)
        self.assertEqual(len(calls), len(got))
        for place, (call, wanted) in enumerate(steps):
            self.assertEqual(wanted, got[len(self.start) + place], f"call {place}: {call}")
