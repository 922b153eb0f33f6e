"""Promise 5: wait, and minute 100000, for wait and for dip."""

import unittest

from tests.lines import (
    LineTest, TO_99900, TO_99999, TO_100000, begin, dip, frame, last, look, replies, sell, wait, wax,
)


class WaitTest(LineTest):

    def test_n_minutes_pass(self):
        self.check([begin(0, 0), wait(3), wait(40), wait(2)], [[0], [3], [43], [45]])

    def test_1_and_100(self):
        self.check([begin(0, 0), wait(1)], [[0], [1]])
        self.check([begin(0, 0), wait(100), wait(100)], [[0], [100], [200]])

    def test_0_and_101(self):
        before = [begin(3, 30), frame(2), wait(4), dip(0)]
        for n in (0, 101, 102, 200):
            self.check_refused(before, wait(n), -1)

    def test_frames_cool_and_nothing_else_changes(self):
        self.check(
            [begin(5, 9), frame(2), dip(0), wait(2), look(0), wax(1), frame(1), wait(100), look(0), wax(1)],
            [[0], [0], [1], [3], [2, 1, 3], [9], [1], [103], [2, 1, 0], [10]],
        )


class LastMinuteTest(LineTest):

    def test_till_minute_100000(self):
        self.assertEqual(last(begin(0, 0), *TO_100000), [100000])
        self.assertEqual(last(begin(0, 0), *TO_99999, wait(1)), [100000])
        self.assertEqual(last(begin(0, 0), *TO_99900, wait(60), wait(40)), [100000])

    def test_not_later(self):
        self.check_refused([begin(0, 0), *TO_99999], wait(2), -8)
        self.check_refused([begin(0, 0), *TO_99999], wait(100), -8)
        self.check_refused([begin(0, 0), *TO_100000], wait(1), -8)
        self.check_refused([begin(0, 0), *TO_100000], wait(100), -8)

    def test_wrong_n_comes_ahead_of_too_late(self):
        self.check_refused([begin(0, 0), *TO_100000], wait(0), -1)
        self.check_refused([begin(0, 0), *TO_100000], wait(101), -1)

    def test_a_dip_in_minute_99999_and_none_in_100000(self):
        before = [begin(2, 20), frame(1), *TO_99999, dip(0)]
        self.assertEqual(replies(*before, look(0), wait(1))[-3:], [[1], [1, 1, 2], [-8]])
        # The frame is warm.
        self.check_refused(before, dip(0), -8)

    def test_no_dip_of_a_cool_frame_in_100000(self):
        self.check_refused([begin(2, 20), frame(1), *TO_100000], dip(0), -8)

    def test_too_late_comes_ahead_of_six_layers_and_of_too_little_wax(self):
        self.check_refused([begin(0, 21), frame(6), *[dip(0)] * 6, *TO_99900, wait(94)], dip(0), -8)
        self.check_refused([begin(0, 0), frame(6), *TO_100000], dip(0), -8)

    def test_no_such_frame_comes_ahead_of_too_late(self):
        self.check_refused([begin(0, 9), frame(1), *TO_100000], dip(1), -2)
        sold = [begin(0, 9), frame(1), dip(0), sell(0), *TO_99900, wait(99)]
        self.check_refused(sold, dip(0), -2)

    def test_the_other_calls_go_on_in_minute_100000(self):
        before = [begin(5, 9), frame(1), dip(0), *TO_99900, wait(99)]
        self.assertEqual(
            replies(*before, wax(1), frame(2), look(0), sell(0), begin(0, 0), wait(1))[-7:],
            [[100000], [9], [1], [1, 1, 0], [1], [0], [1]],
        )


if __name__ == "__main__":
    unittest.main()
