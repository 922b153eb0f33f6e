"""Promise 12: rest."""

import unittest

from tests.lines import LineTest, begin, dip, frame, least, replies, rest, sell, wait


class RestTest(LineTest):

    def test_without_frames(self):
        for cools in range(6):
            self.check_unchanging([begin(cools, 9)], rest(), [0])

    def test_new_frames_want_all_their_layers(self):
        self.check_unchanging([begin(2, 9), frame(3), frame(1), frame(2)], rest(), [7, 3, 1, 2])
        self.check_unchanging([begin(5, 9), frame(6)], rest(), [31, 6])
        self.check_unchanging([begin(5, 9), *[frame(6)] * 6], rest(), [36, 6, 6, 6, 6, 6, 6])
        self.check_unchanging([begin(0, 9), frame(2), frame(1)], rest(), [3, 2, 1])

    def test_fewer_layers_than_wanted(self):
        self.check_unchanging([begin(1, 9), frame(3), frame(2), dip(0), dip(1)], rest(), [3, 2, 1])

    def test_as_many_layers_as_wanted(self):
        self.check_unchanging([begin(0, 9), frame(2), dip(0), dip(0)], rest(), [0, 0])
        self.check_unchanging([begin(0, 9), frame(1), frame(3), dip(0)], rest(), [3, 0, 3])

    def test_more_layers_than_wanted(self):
        self.check_unchanging([begin(0, 9), frame(1), frame(2), dip(0), dip(0), dip(0)], rest(), [2, 0, 2])
        self.check_unchanging([begin(0, 9), frame(1), dip(0), dip(0)], rest(), [0, 0])

    def test_a_layer_that_melted_off_is_wanted_again(self):
        self.check(
            [begin(1, 9), frame(2), rest(), dip(0), rest(), dip(0), rest(), dip(0), rest()],
            [[0], [0], [3, 2], [1], [1, 1], [0], [3, 2], [0], [3, 2]],
        )

    def test_sold_frames(self):
        self.check_unchanging([begin(0, 9), frame(1), dip(0), sell(0)], rest(), [0, 0])
        self.check_unchanging(
            [begin(1, 9), frame(1), frame(2), frame(1), dip(0), wait(1), dip(0), wait(1), sell(0)],
            rest(), [3, 0, 2, 1],
        )

    def test_warm_frames_count_as_cool(self):
        # Frame 0 is warm for 5 minutes still, but its one layer more is counted as a minute.
        self.check_unchanging([begin(5, 9), frame(2), dip(0)], rest(), [1, 1])
        self.check_unchanging([begin(5, 9), frame(3), frame(1), dip(0)], rest(), [7, 2, 1])

    def test_too_little_wax_does_not_matter(self):
        self.check_unchanging([begin(0, 0), frame(4)], rest(), [4, 4])

    def test_as_least_of_the_same(self):
        for cools in range(6):
            for layers in range(1, 7):
                before = [begin(cools, 50), frame(layers), frame(4), frame(2), dip(0), dip(1)]
                told = replies(*before, rest())[-1]
                self.assertEqual(told[1:], [layers - 1, 3, 2])
                self.assertEqual(replies(*before, least(told[1:]))[-1], told[:1])


if __name__ == "__main__":
    unittest.main()
