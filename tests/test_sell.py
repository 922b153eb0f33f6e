"""Promises 6 and 7: sell and look."""

import unittest

from tests.lines import LineTest, begin, dip, frame, look, replies, sell, wait, wax


class SellTest(LineTest):

    def test_gone_with_its_wax(self):
        self.check(
            [begin(1, 20), frame(2), dip(0), wait(1), dip(0), wait(1), wax(1), sell(0), wax(1), look(0)],
            [[0], [0], [1], [2], [2], [4], [18], [3], [19], [-2]],
        )

    def test_as_many_layers_as_it_wants(self):
        for k in range(1, 7):
            given = replies(begin(0, 21), frame(k), *[dip(0)] * k, look(0), sell(0), look(0))
            self.assertEqual(given[-3:], [[k, k, 0], [k * (k + 1) // 2], [-2]])

    def test_more_layers_than_it_wants(self):
        self.check(
            [begin(0, 21), frame(1), dip(0), dip(0), dip(0), sell(0), look(0)],
            [[0], [0], [1], [2], [3], [6], [-2]],
        )

    def test_takes_no_minute_and_leaves_the_others(self):
        self.check(
            [begin(0, 20), frame(1), frame(3), dip(0), dip(1), sell(0), wait(1), look(1), dip(1), wax(1)],
            [[0], [0], [1], [1], [1], [1], [3], [3, 1, 0], [2], [17]],
        )

    def test_fewer_layers_than_it_wants(self):
        self.check_refused([begin(0, 9), frame(1)], sell(0), -4)
        self.check_refused([begin(0, 9), frame(3), dip(0), dip(0)], sell(0), -4)
        # It had enough, and one melted off.
        self.check_refused([begin(1, 9), frame(1), dip(0), dip(0), wait(1)], sell(0), -4)

    def test_warm(self):
        for cools in range(1, 6):
            dipped = [begin(cools, 9), frame(1), dip(0)]
            self.check_refused(dipped, sell(0), -3)

    def test_the_last_warm_minute_and_the_first_cool_one(self):
        dipped = [begin(4, 9), frame(1), dip(0)]
        self.check_refused(dipped + [wait(3)], sell(0), -3)
        self.check(dipped + [wait(4), sell(0)], [[0], [0], [1], [5], [1]])
        self.check([begin(0, 9), frame(1), dip(0), sell(0)], [[0], [0], [1], [1]])

    def test_warm_with_more_layers_than_it_wants(self):
        self.check_refused([begin(1, 9), frame(1), dip(0), wait(1), dip(0)], sell(0), -3)

    def test_fewer_layers_come_ahead_of_warm(self):
        self.check_refused([begin(3, 9), frame(2), dip(0)], sell(0), -4)
        self.check_refused([begin(3, 9), frame(1), dip(0), dip(0)], sell(0), -4)

    def test_no_such_frame(self):
        for number in (0, 9):
            self.check_refused([begin(1, 9)], sell(number), -2)
        for number in (1, 6, 9):
            self.check_refused([begin(1, 9), frame(1), dip(0), wait(1)], sell(number), -2)

    def test_a_sold_one(self):
        self.check_refused([begin(0, 9), frame(1), frame(1), dip(0), sell(0)], sell(0), -2)


class LookTest(LineTest):

    def test_wants_has_and_is_warm_still(self):
        self.check(
            [begin(3, 9), frame(4), frame(2), look(0), dip(0), look(0), wait(1), look(0), wait(1), look(0),
             wait(1), look(0), wait(1), look(0), look(1)],
            [[0], [0], [1], [4, 0, 0], [1], [4, 1, 3], [2], [4, 1, 2], [3], [4, 1, 1],
             [4], [4, 1, 0], [5], [4, 1, 0], [2, 0, 0]],
        )

    def test_changes_nothing(self):
        self.check(
            [begin(2, 9), frame(1), dip(0), look(0), look(0), wait(1), wax(1)],
            [[0], [0], [1], [1, 1, 2], [1, 1, 2], [2], [9]],
        )

    def test_no_such_frame(self):
        for number in (0, 5, 9):
            self.check_refused([begin(1, 9)], look(number), -2)
        for number in (2, 5, 6, 9):
            self.check_refused([begin(1, 9), frame(1), frame(1), dip(1)], look(number), -2)

    def test_a_sold_one(self):
        self.check_refused([begin(0, 9), frame(1), frame(1), dip(0), sell(0)], look(0), -2)


if __name__ == "__main__":
    unittest.main()
