"""Promises 8 and 9: least and plan."""

import unittest

from tests.lines import LineTest, begin, dip, frame, judge, last, least, plan, replies, wait
from tests.plans import REFUSED, does, shortest, some_wanted

A_DAY = [begin(3, 50), frame(2), frame(1), dip(0), wait(2), dip(1)]


class PlanTest(LineTest):

    def check_plan(self, cools, wanted, row):
        self.check([begin(cools, 0), plan(wanted), least(wanted)], [[0], [len(row), *row], [len(row)]])

    def test_without_numbers(self):
        for cools in range(6):
            self.check_plan(cools, [], [])

    def test_nothing_wanted(self):
        for frames in range(1, 7):
            self.check_plan(0, [0] * frames, [])
            self.check_plan(5, [0] * frames, [])

    def test_one_frame_alone(self):
        self.check_plan(2, [1], [1])
        self.check_plan(2, [3], [1, 0, 0, 1, 0, 0, 1])
        self.check_plan(5, [2], [1, 0, 0, 0, 0, 0, 1])
        self.check_plan(5, [6], [1, 0, 0, 0, 0, 0] * 5 + [1])
        self.check_plan(1, [0, 0, 2], [3, 0, 3])

    def test_cooling_0(self):
        self.check_plan(0, [4], [1, 1, 1, 1])
        self.check_plan(0, [1, 3], [2, 1, 2, 2])
        self.check_plan(0, [6] * 6, [1, 2, 3, 4, 5, 6] * 6)

    def test_each_wants_one(self):
        for cools in range(6):
            self.check_plan(cools, [1, 1, 1], [1, 2, 3])
            self.check_plan(cools, [0, 1, 0, 1, 1, 0], [2, 4, 5])

    def test_several_tops(self):
        self.check_plan(3, [2, 2], [1, 2, 0, 0, 1, 2])
        self.check_plan(1, [2, 2], [1, 2, 1, 2])
        self.check_plan(0, [2, 2, 2], [1, 2, 3, 1, 2, 3])
        self.check_plan(4, [1, 3, 0, 3, 1], [2, 4, 1, 0, 0, 2, 4, 5, 0, 0, 2, 4])
        self.check_plan(5, [6] * 6, [1, 2, 3, 4, 5, 6] * 6)

    def test_one_top_and_the_others_dealt_out(self):
        self.check_plan(2, [3, 1, 2], [1, 3, 2, 1, 3, 0, 1])
        self.check_plan(0, [4, 2, 2, 1], [1, 2, 3, 1, 2, 4, 1, 3, 1])
        self.check_plan(2, [4, 2, 2, 1], [1, 2, 3, 1, 2, 4, 1, 3, 0, 1])
        self.check_plan(3, [4, 2, 2, 1], [1, 2, 3, 0, 1, 2, 4, 0, 1, 3, 0, 0, 1])

    def test_more_wanted_comes_ahead_of_the_lower_number(self):
        self.check_plan(1, [1, 2, 4, 3], [3, 4, 2, 3, 4, 2, 3, 4, 1, 3])
        self.check_plan(1, [1, 2, 3], [3, 2, 1, 3, 2, 3])

    def test_equal_wishes_of_frames_that_are_not_tops(self):
        self.check_plan(1, [1, 3, 1, 1], [2, 1, 4, 2, 3, 2])
        self.check_plan(2, [1, 3, 1, 1], [2, 1, 4, 2, 3, 0, 2])
        self.check_plan(0, [2, 2, 3], [3, 1, 2, 3, 1, 2, 3])
        self.check_plan(0, [1, 2, 1, 2, 4], [5, 2, 4, 5, 2, 1, 5, 4, 3, 5])

    def test_rows_longer_than_need_be_for_cooling(self):
        self.check_plan(1, [2, 1, 1, 1, 1, 1], [1, 2, 3, 4, 5, 6, 1])
        self.check_plan(2, [3, 3, 2, 2, 1], [1, 2, 3, 4, 5, 1, 2, 3, 4, 1, 2])

    def test_rows_just_as_long_as_cooling_asks(self):
        self.check_plan(2, [3, 2, 2], [1, 2, 3, 1, 2, 3, 1])
        self.check_plan(5, [2, 1, 1, 1, 1, 1], [1, 2, 3, 4, 5, 6, 1])

    def test_some_rows_longer_and_none_shorter(self):
        self.check_plan(1, [3, 2, 1], [1, 2, 3, 1, 2, 1])

    def test_the_workshop_of_now_counts(self):
        self.check(
            [begin(0, 0), plan([2]), begin(2, 0), plan([2]), begin(6, 0), plan([2]), least([2])],
            [[0], [2, 1, 1], [0], [4, 1, 0, 0, 1], [-1], [4, 1, 0, 0, 1], [4]],
        )

    def test_it_does_and_has_the_length_that_least_tells(self):
        for cools in range(6):
            for wanted in some_wanted():
                told = last(begin(cools, 0), plan(wanted))
                row = told[1:]
                self.assertEqual(told[0], len(row))
                self.assertTrue(does(cools, wanted, row), (cools, wanted, row))
                self.assertEqual(
                    replies(begin(cools, 0), least(wanted), judge(wanted, row)),
                    [[0], [len(row)], [0]],
                )

    def test_no_plan_that_does_is_shorter(self):
        lists = [
            [2], [1, 1], [2, 1], [2, 2], [3, 1], [3, 3], [4, 2], [5, 4], [6, 1], [1, 1, 1], [2, 1, 1], [2, 2, 1],
            [3, 2, 2], [3, 3, 1], [1, 2, 3], [0, 3, 2], [2, 2, 2, 1], [3, 1, 1, 1], [2, 1, 1, 1, 1],
        ]
        for cools in range(6):
            for wanted in lists:
                with self.subTest(cools=cools, wanted=wanted):
                    self.assertEqual(last(begin(cools, 0), least(wanted)), [shortest(cools, wanted)])

    def test_frames_and_days_do_not_matter_and_nothing_changes(self):
        self.check_unchanging(A_DAY, least([1, 2]), [5])
        self.check_unchanging(A_DAY, plan([1, 2]), [5, 2, 1, 0, 0, 2])
        self.check_unchanging(A_DAY, plan([]), [0])

    def test_six_frames_and_six_dips(self):
        self.check([begin(5, 0), least([6] * 6), least([0] * 6), least([6])], [[0], [36], [0], [31]])

    def test_too_many_frames_or_dips(self):
        for wanted in REFUSED:
            with self.subTest(wanted=wanted):
                self.check_refused(A_DAY, least(wanted), -1)
                self.check_refused(A_DAY, plan(wanted), -1)
                self.check_refused([begin(0, 0)], least(wanted), -1)
                self.check_refused([begin(0, 0)], plan(wanted), -1)


if __name__ == "__main__":
    unittest.main()
