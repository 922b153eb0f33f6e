"""Promise 1: begin."""

import unittest

from tests.lines import LineTest, PROBE, begin, dip, frame, look, replies, sell, wait, wax


class BeginTest(LineTest):

    def test_a_new_workshop(self):
        self.check(
            [begin(3, 40), look(0), wait(1), wax(1), frame(2), look(0)],
            [[0], [-2], [1], [41], [0], [2, 0, 0]],
        )

    def test_cools_0_to_5(self):
        for cools in range(6):
            with self.subTest(cools=cools):
                self.check(
                    [begin(cools, 10), frame(1), dip(0), look(0)],
                    [[0], [0], [1], [1, 1, cools]],
                )

    def test_wax_0_and_1000(self):
        self.check([begin(0, 0), frame(1), dip(0), wax(1000)], [[0], [0], [-6], [1000]])
        self.check([begin(0, 1000), frame(1), dip(0), wax(1)], [[0], [0], [1], [-1]])

    def test_cools_above_5(self):
        for cools in range(6, 10):
            self.check_refused([], begin(cools, 10), -1)

    def test_wax_above_1000(self):
        self.check_refused([], begin(0, 1001), -1)
        self.check_refused([], begin(5, 2000), -1)

    def test_both_wrong(self):
        self.check_refused([], begin(6, 1001), -1)

    def test_refused_behind_one_that_was_answered_0(self):
        before = [begin(2, 30), frame(2), frame(1), dip(0), wait(1), dip(1), wax(4)]
        self.check_refused(before, begin(6, 10), -1)
        self.check_refused(before, begin(0, 1001), -1)

    def test_again_instead_of_what_there_was(self):
        before = [begin(2, 30), frame(1), frame(2), dip(0), wait(9), sell(0), dip(1), wax(50)]
        given = replies(*before, begin(4, 17), *PROBE)
        self.assertEqual(given[len(before):], replies(begin(4, 17), *PROBE))

    def test_again_with_the_same_numbers(self):
        before = [begin(2, 30), frame(1), dip(0)]
        given = replies(*before, begin(2, 30), *PROBE)
        self.assertEqual(given[len(before):], replies(begin(2, 30), *PROBE))

    def test_again_wax_may_be_bought_anew(self):
        self.check([begin(0, 1000), begin(0, 0), wax(1000)], [[0], [0], [1000]])

    def test_again_six_frames_may_stand_anew(self):
        six = [frame(1)] * 6
        numbers = [[k] for k in range(6)]
        self.check(
            [begin(0, 0), *six, begin(0, 0), *six, frame(1)],
            [[0], *numbers, [0], *numbers, [-5]],
        )


if __name__ == "__main__":
    unittest.main()
