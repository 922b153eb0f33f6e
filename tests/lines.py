"""Writes lines of calls and reads what they give back."""

import unittest

from dipvats.workshop import answers


def begin(cools, wax):
    return [0, cools, wax]


def frame(layers):
    return [1, layers]


def wax(n):
    return [2, n]


def dip(number):
    return [3, number]


def wait(n):
    return [4, n]


def sell(number):
    return [5, number]


def look(number):
    return [6, number]


def least(wanted):
    return [7, len(wanted), *wanted]


def plan(wanted):
    return [8, len(wanted), *wanted]


def judge(wanted, row):
    return [9, len(wanted), *wanted, len(row), *row]


def cooling(minutes, wanted):
    return [10, minutes, len(wanted), *wanted]


def rest():
    return [11]


def follow(row):
    return [12, len(row), *row]


def book():
    return [13]


def line(*calls):
    return [number for call in calls for number in call]


def replies(*calls):
    """What each call answers, as a list of its own; the counts must come out even."""
    given = answers(line(*calls))
    split = []
    place = 0
    while place < len(given):
        behind = place + 1 + given[place]
        if behind > len(given):
            raise AssertionError(f"a count runs over the end: {given}")
        split.append(given[place + 1:behind])
        place = behind
    if len(split) != len(calls):
        raise AssertionError(f"{len(calls)} calls, but {len(split)} answers: {given}")
    return split


def last(*calls):
    return replies(*calls)[-1]


def all_calls(number, wanted, row):
    """Each call but begin, with the same number, wanted and plan handed over."""
    return [
        frame(number), wax(number), dip(number), wait(number), sell(number), look(number),
        least(wanted), plan(wanted), judge(wanted, row), cooling(number, wanted),
        rest(), follow(row), book(),
    ]


# No line of 60 calls comes so far; these are longer, to stand at the edge that's told.
TO_99900 = [wait(100)] * 999
TO_99999 = TO_99900 + [wait(99)]
TO_100000 = TO_99900 + [wait(100)]

# Shows all of a workshop: what frames stand and how warm, how many there have been, what was
# bought (the halving steps come as near to 1000 as they can), what's in the vat, the minute,
# how long frames cool.
PROBE = (
    [book(), rest(), least([2])]
    + [look(number) for number in range(7)]
    + [wait(1)]
    + [wax(step) for step in (512, 256, 128, 64, 32, 16, 8, 4, 2, 1)]
    + [frame(6)]
    + [dip(number) for number in range(7)]
    + [look(number) for number in range(7)]
    + [sell(number) for number in range(7)]
    + [frame(6) for k in range(6)]
)


class LineTest(unittest.TestCase):

    def check(self, calls, wanted):
        self.assertEqual(replies(*calls), wanted)

    def check_refused(self, before, call, *refusal):
        """The call answers this refusal alone, and all behind it is as if it hadn't been there."""
        self.check_unchanging(before, call, list(refusal))

    def check_unchanging(self, before, call, answer):
        """The call answers this, and all behind it is as if it hadn't been there."""
        given = replies(*before, call, *PROBE)
        self.assertEqual(given[len(before)], answer)
        del given[len(before)]
        self.assertEqual(given, replies(*before, *PROBE))
