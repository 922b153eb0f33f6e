"""Promise 3: wax."""

import unittest

from tests.lines import LineTest, begin, dip, frame, sell, wait, wax


class WaxTest(LineTest):

    def test_so_much_more_is_in_the_vat(self):
        self.check([begin(0, 5), wax(1), wax(30)], [[0], [6], [36]])

    def test_it_can_be_dipped_into(self):
        self.check([begin(0, 0), frame(1), dip(0), wax(1), dip(0)], [[0], [0], [-6], [1], [1]])

    def test_answers_what_is_in_the_vat_not_what_was_bought(self):
        self.check(
            [begin(0, 10), frame(2), dip(0), dip(0), wax(4), sell(0), wax(4)],
            [[0], [0], [1], [2], [11], [3], [15]],
        )

    def test_takes_no_minute(self):
        self.check([begin(0, 0), wax(9), wait(1)], [[0], [9], [1]])

    def test_none(self):
        self.check_refused([begin(2, 5), frame(1), dip(0)], wax(0), -1)
        self.check_refused([begin(2, 1000)], wax(0), -1)

    def test_1000_bought_and_1001(self):
        self.check([begin(0, 0), wax(1000)], [[0], [1000]])
        self.check([begin(0, 999), wax(1)], [[0], [1000]])
        self.check([begin(0, 400), wax(300), wax(300)], [[0], [700], [1000]])
        self.check_refused([begin(0, 0)], wax(1001), -1)
        self.check_refused([begin(0, 1000)], wax(1), -1)
        self.check_refused([begin(0, 400), wax(300)], wax(301), -1)
        self.check_refused([begin(0, 400), wax(300)], wax(2000), -1)

    def test_what_was_used_stays_bought(self):
        used = [begin(0, 999), frame(1), dip(0)]
        self.check(used + [wax(1)], [[0], [0], [1], [999]])
        self.check_refused(used, wax(2), -1)
        self.check_refused(used + [sell(0)], wax(2), -1)

    def test_what_melted_back_is_not_bought_again(self):
        melted = [begin(1, 999), frame(1), dip(0), dip(0)]
        self.check(melted + [wax(1)], [[0], [0], [1], [0], [1000]])
        self.check_refused(melted, wax(2), -1)

    def test_after_a_refusal_less_may_still_be_bought(self):
        self.check([begin(0, 990), wax(11), wax(10), wax(1)], [[0], [-1], [1000], [-1]])


if __name__ == "__main__":
    unittest.main()
