"""Promise 2: frame."""

import unittest

from tests.lines import LineTest, begin, dip, frame, look, sell, wait


class FrameTest(LineTest):

    def test_numbered_from_0_on(self):
        self.check(
            [begin(5, 0), frame(3), frame(1), look(0), look(1)],
            [[0], [0], [1], [3, 0, 0], [1, 0, 0]],
        )

    def test_1_to_6_layers(self):
        for layers in range(1, 7):
            self.check([begin(2, 0), frame(layers), look(0)], [[0], [0], [layers, 0, 0]])

    def test_layers_that_are_not_1_to_6(self):
        for layers in (0, 7, 8, 9):
            self.check_refused([begin(2, 20), frame(2), dip(0)], frame(layers), -1)

    def test_cool_at_first_whatever_the_minute(self):
        self.check(
            [begin(5, 9), wait(7), frame(1), look(0), dip(0)],
            [[0], [7], [0], [1, 0, 0], [1]],
        )

    def test_takes_no_minute_and_no_wax(self):
        self.check([begin(1, 1), frame(1), frame(1), dip(1), wait(1)], [[0], [0], [1], [1], [2]])

    def test_the_sixth_and_the_seventh(self):
        five = [begin(0, 0)] + [frame(1)] * 5
        self.check(five + [frame(4), look(5), look(6)], [[0], [0], [1], [2], [3], [4], [5], [4, 0, 0], [-2]])
        self.check_refused(five + [frame(4)], frame(1), -5)

    def test_a_sold_one_counts_among_the_six(self):
        before = [begin(0, 9), frame(1), dip(0), sell(0)] + [frame(1)] * 4
        self.check(
            before + [frame(2), frame(2), look(0), look(5)],
            [[0], [0], [1], [1], [1], [2], [3], [4], [5], [-5], [-2], [2, 0, 0]],
        )
        self.check_refused(before + [frame(2)], frame(2), -5)

    def test_a_sold_number_is_not_used_again(self):
        self.check(
            [begin(0, 9), frame(1), frame(2), dip(1), dip(1), sell(1), frame(3), look(1), look(2)],
            [[0], [0], [1], [1], [2], [3], [2], [-2], [3, 0, 0]],
        )

    def test_six_sold_leave_no_place(self):
        calls = [begin(0, 6)] + [frame(1)] * 6
        for number in range(6):
            calls += [dip(number), sell(number)]
        self.check(calls + [frame(1)], [[0]] + [[k] for k in range(6)] + [[1]] * 12 + [[-5]])

    def test_wrong_layers_come_ahead_of_no_place(self):
        six = [begin(0, 0)] + [frame(1)] * 6
        self.check_refused(six, frame(0), -1)
        self.check_refused(six, frame(7), -1)


if __name__ == "__main__":
    unittest.main()
