"""Promise 11: cooling."""

import unittest

from tests.lines import LineTest, begin, cooling, dip, frame, least, replies, wait
from tests.plans import REFUSED, shortest

A_DAY = [begin(3, 50), frame(2), frame(1), dip(0), wait(2), dip(1)]


class CoolingTest(LineTest):

    def check_cooling(self, minutes, wanted, answer):
        """The workshop's own cooling, whatever it is, doesn't matter."""
        for cools in range(6):
            self.check([begin(cools, 0), cooling(minutes, wanted)], [[0], [answer]])

    def test_one_frame_that_wants_two(self):
        # With cooling c it takes c + 2 minutes.
        for minutes, answer in ((0, -6), (1, -6), (2, 0), (3, 1), (4, 2), (5, 3), (6, 4), (7, 5), (8, 5), (100, 5)):
            self.check_cooling(minutes, [2], answer)

    def test_several_frames(self):
        # 2 * (c + 1) + 1 minutes, but 6 at least.
        for minutes, answer in ((5, -6), (6, 1), (7, 2), (8, 2), (9, 3), (10, 3), (11, 4), (12, 4), (13, 5), (14, 5)):
            self.check_cooling(minutes, [3, 1, 2], answer)

    def test_all_tops(self):
        self.check_cooling(35, [6] * 6, -6)
        self.check_cooling(36, [6] * 6, 5)
        self.check_cooling(30, [6], 4)
        self.check_cooling(31, [6], 5)

    def test_each_wants_one(self):
        self.check_cooling(2, [1, 1, 1], -6)
        self.check_cooling(3, [1, 1, 1], 5)
        self.check_cooling(0, [0, 1], -6)
        self.check_cooling(1, [0, 1], 5)

    def test_nothing_wanted(self):
        for minutes in (0, 1, 100):
            self.check_cooling(minutes, [], 5)
            self.check_cooling(minutes, [0], 5)
            self.check_cooling(minutes, [0] * 6, 5)

    def test_minutes_0_and_100(self):
        self.check_cooling(0, [1], -6)
        self.check_cooling(0, [6] * 6, -6)
        self.check_cooling(100, [6] * 6, 5)
        self.check_cooling(100, [6, 0, 3], 5)

    def test_the_longest_by_trying_all(self):
        for wanted in ([3], [2, 2], [3, 1], [4, 2], [3, 3, 1], [2, 1, 1, 1]):
            takes = [shortest(cools, wanted) for cools in range(6)]
            for minutes in range(20):
                fitting = [cools for cools in range(6) if takes[cools] <= minutes]
                self.check_cooling(minutes, wanted, max(fitting, default=-6))

    def test_with_it_least_is_in_time_and_with_one_more_not(self):
        for wanted in ([4, 1], [5, 5], [3, 2, 1], [6, 2, 2, 2], [4, 3, 3, 1, 1, 1]):
            for minutes in range(0, 40):
                answer = replies(begin(0, 0), cooling(minutes, wanted))[1][0]
                if answer >= 0:
                    self.assertLessEqual(replies(begin(answer, 0), least(wanted))[1][0], minutes)
                longer = 0 if answer == -6 else answer + 1
                if longer <= 5:
                    self.assertGreater(replies(begin(longer, 0), least(wanted))[1][0], minutes)

    def test_nothing_changes(self):
        self.check_unchanging(A_DAY, cooling(9, [3, 1]), [3])
        self.check_refused(A_DAY, cooling(3, [3, 1]), -6)

    def test_too_many_frames_or_dips(self):
        for wanted in REFUSED:
            with self.subTest(wanted=wanted):
                # With 0 minutes most of these are due -6 too: -1 comes first.
                for minutes in (0, 50, 100):
                    self.check_refused(A_DAY, cooling(minutes, wanted), -1)


if __name__ == "__main__":
    unittest.main()
