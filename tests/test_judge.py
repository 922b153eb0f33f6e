"""Promise 10: judge."""

import unittest
from itertools import product

from tests.lines import LineTest, begin, dip, frame, judge, last, wait
from tests.plans import REFUSED, does, shortest

A_DAY = [begin(2, 50), frame(2), frame(1), dip(0), wait(2), dip(1)]


class JudgeTest(LineTest):

    def check_judged(self, cools, wanted, row, *answer):
        self.check_unchanging([begin(cools, 9)], judge(wanted, row), list(answer))

    def test_as_short_as_can_be(self):
        self.check_judged(2, [3, 1, 2], [1, 3, 2, 1, 3, 0, 1], 0)
        # Another plan than the one that plan tells.
        self.check_judged(2, [3, 1, 2], [1, 2, 3, 1, 0, 3, 1], 0)
        self.check_judged(1, [2, 2], [2, 1, 2, 1], 0)

    def test_longer_than_it_need_be(self):
        self.check_judged(1, [2], [1, 0, 0, 1], 1)
        self.check_judged(1, [2, 1], [1, 2, 0, 0, 1], 2)
        self.check_judged(0, [1, 1], [2, 0, 1], 1)

    def test_empty_minutes_ahead_and_behind_count(self):
        self.check_judged(1, [2], [0, 0, 1, 0, 1], 2)
        self.check_judged(1, [2], [1, 0, 1, 0, 0, 0], 3)

    def test_a_plan_without_numbers(self):
        self.check_judged(3, [], [], 0)
        self.check_judged(3, [0, 0, 0], [], 0)
        self.check_judged(3, [0, 0, 1], [], -4, 2)
        self.check_judged(3, [6] * 6, [], -4, 0)

    def test_nothing_wanted(self):
        self.check_judged(3, [], [0, 0, 0], 3)
        self.check_judged(3, [0, 0], [0], 1)
        self.check_judged(3, [], [0] * 60, 60)

    def test_a_plan_of_60(self):
        self.check_judged(5, [1], [1] + [0] * 59, 59)
        self.check_judged(5, [1], [0] * 59 + [1], 59)
        self.check_judged(0, [6] * 6, [1, 2, 3, 4, 5, 6] * 6 + [0] * 24, 24)
        self.check_judged(0, [6] * 6, [1, 2, 3, 4, 5, 6] * 10, -4, 0)
        self.check_judged(5, [2], [1] + [0] * 58 + [2], -3, 59)
        self.check_judged(5, [1], [0] * 60, -4, 0)

    def test_a_frame_that_the_list_has_not(self):
        self.check_judged(0, [], [1], -3, 0)
        self.check_judged(0, [], [0, 0, 1], -3, 2)
        self.check_judged(5, [], [9], -3, 0)
        self.check_judged(1, [1, 1], [1, 2, 3], -3, 2)
        self.check_judged(1, [1, 1], [0, 9, 1, 2], -3, 1)
        self.check_judged(1, [1, 1, 1, 1, 1, 1], [1, 2, 3, 4, 5, 6, 7], -3, 6)
        for dipped in range(1, 10):
            self.check_judged(0, [1] * 4, [1, 2, 3, 4, dipped], *((-4, dipped - 1) if dipped < 5 else (-3, 4)))

    def test_a_frame_that_is_not_cool_yet(self):
        for cools in range(1, 6):
            for between in range(7):
                row = [1] + [0] * between + [1]
                if between < cools:
                    self.check_judged(cools, [2], row, -3, between + 1)
                else:
                    self.check_judged(cools, [2], row, between - cools)

    def test_cooling_0(self):
        self.check_judged(0, [2], [1, 1], 0)
        self.check_judged(0, [3, 1], [2, 1, 1, 1], 0)
        self.check_judged(0, [6], [1] * 6 + [0], 1)

    def test_the_last_dip_counts(self):
        self.check_judged(2, [3], [1, 0, 0, 1, 0, 1], -3, 5)
        self.check_judged(2, [3], [1, 0, 0, 1, 0, 0, 1], 0)

    def test_other_frames_do_not_matter_to_one(self):
        self.check_judged(2, [1, 1, 1], [1, 2, 3], 0)
        self.check_judged(2, [2, 2, 1], [1, 2, 3, 1, 2], 0)
        self.check_judged(2, [2, 2, 1], [1, 2, 3, 2, 1], -3, 3)

    def test_the_first_such_minute(self):
        self.check_judged(1, [4], [1, 1, 1, 1], -3, 1)
        self.check_judged(2, [2, 2], [1, 2, 0, 2, 1, 1], -3, 3)
        self.check_judged(1, [2], [1, 1, 2], -3, 1)
        self.check_judged(1, [2], [1, 2, 1, 1], -3, 1)

    def test_dipped_too_seldom(self):
        self.check_judged(0, [2], [1], -4, 0)
        self.check_judged(0, [1, 3], [1, 2, 2], -4, 1)

    def test_dipped_too_often(self):
        self.check_judged(0, [1], [1, 1], -4, 0)
        self.check_judged(1, [1, 2], [1, 2, 1, 2], -4, 0)
        self.check_judged(0, [1, 0], [1, 2], -4, 1)

    def test_never_dipped(self):
        self.check_judged(0, [1, 1, 1], [1, 3], -4, 1)
        self.check_judged(0, [0, 0, 0, 0, 0, 6], [0], -4, 5)

    def test_the_lowest_of_several(self):
        self.check_judged(0, [1, 2, 1, 1], [4, 1, 2, 4], -4, 1)
        self.check_judged(0, [1, 1, 1], [3, 3, 2, 2], -4, 0)
        self.check_judged(0, [0, 1, 1], [3, 3], -4, 1)

    def test_a_wrong_minute_comes_ahead_of_a_wrong_frame(self):
        self.check_judged(1, [1], [1, 1], -3, 1)
        self.check_judged(0, [1, 1], [2, 2, 2, 3], -3, 3)
        self.check_judged(3, [5, 2], [2, 0, 2], -3, 2)

    def test_every_short_plan(self):
        for cools, wanted in ((0, [2, 1]), (1, [2, 1]), (2, [2, 1]), (1, [2, 2]), (1, [0, 2])):
            shortest_one = shortest(cools, wanted)
            for length in range(6):
                for row in product(range(4), repeat=length):
                    answer = last(begin(cools, 0), judge(wanted, row))
                    if does(cools, wanted, row):
                        self.assertEqual(answer, [length - shortest_one])
                    else:
                        self.assertIn(answer[0], (-3, -4))
                        self.assertEqual(len(answer), 2)

    def test_the_workshop_of_now_counts(self):
        self.check(
            [begin(1, 0), judge([2], [1, 0, 1]), begin(2, 0), judge([2], [1, 0, 1])],
            [[0], [0], [0], [-3, 2]],
        )

    def test_frames_and_days_do_not_matter_and_nothing_changes(self):
        self.check_unchanging(A_DAY, judge([1, 2, 1], [2, 1, 3, 2]), [0])
        self.check_refused(A_DAY, judge([1, 2], [2, 2]), -3, 1)
        self.check_refused(A_DAY, judge([1, 2], [2, 1]), -4, 1)

    def test_too_many_frames_or_dips(self):
        for wanted in REFUSED:
            with self.subTest(wanted=wanted):
                self.check_refused(A_DAY, judge(wanted, []), -1)
                # These have a wrong minute and a wrong frame too: -1 comes first, and alone.
                self.check_refused(A_DAY, judge(wanted, [1, 1, 9]), -1)
                self.check_refused([begin(0, 0)], judge(wanted, [0] * 60), -1)


if __name__ == "__main__":
    unittest.main()
