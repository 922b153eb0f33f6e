"""Writes lines of calls and reads what they give back."""

import unittest

from dipvats.workshop import answers


def begin(cools, wax):
    return [0, cools, wax]


def frame(layers):
    return [1, layers]


def wax(n):
    return [2, n]


def dip(number):
    return [3, number]


def wait(n):
    return [4, n]


def sell(number):
    return [5, number]


def look(number):
    return [6, number]


def line(*calls):
    return [number for call in calls for number in call]


def replies(*calls):
    """What each call answers, as a list of its own; the counts must come out even."""
    given = answers(line(*calls))
    split = []
    place = 0
    while place < len(given):
        behind = place + 1 + given[place]
        if behind > len(given):
            raise AssertionError(f"a count runs over the end: {given}")
        split.append(given[place + 1:behind])
        place = behind
    if len(split) != len(calls):
        raise AssertionError(f"{len(calls)} calls, but {len(split)} answers: {given}")
    return split


def last(*calls):
    return replies(*calls)[-1]


def all_calls(number):
    """Each call but begin, with the same number handed over."""
    return [frame(number), wax(number), dip(number), wait(number), sell(number), look(number)]


# Shows all of a workshop: what frames stand and how warm, how many there have been, what was
# bought (the halving steps come as near to 1000 as they can), what's in the vat, the minute,
# how long frames cool.
PROBE = (
    [look(number) for number in range(7)]
    + [wait(1)]
    + [wax(step) for step in (512, 256, 128, 64, 32, 16, 8, 4, 2, 1)]
    + [frame(6)]
    + [dip(number) for number in range(7)]
    + [look(number) for number in range(7)]
    + [sell(number) for number in range(7)]
    + [frame(6) for k in range(6)]
)


class LineTest(unittest.TestCase):

    def check(self, calls, wanted):
        self.assertEqual(replies(*calls), wanted)

    def check_refused(self, before, call, refusal):
        """The call answers this refusal alone, and all behind it is as if it hadn't been there."""
        given = replies(*before, call, *PROBE)
        self.assertEqual(given[len(before)], [refusal])
        del given[len(before)]
        self.assertEqual(given, replies(*before, *PROBE))
