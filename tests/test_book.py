"""Promise 14: book."""

import unittest

from tests.lines import LineTest, begin, book, dip, follow, frame, replies, sell, wait, wax


def some_line(number):
    """Thirty calls that change a workshop, with book behind each; others for another number."""
    calls = [begin(number % 6, number * 37 % 120)]
    for k in range(30):
        number = number * 16807 % 2147483647
        small = number // 11 % 7
        calls.append([
            dip(small % 4), dip(small % 3), frame(small), wax(small), wait(small), sell(small % 4),
            follow([small, 0, 1, 2, 0, 1]), follow([1, 2, 3, 1]), begin(small, 30 * small),
        ][number // 1009 % (9 if k == 20 else 8)])
    return [call for pair in calls for call in (pair, book())]


class BookTest(LineTest):

    def test_behind_begin(self):
        self.check([begin(2, 40), book()], [[0], [0, 40, 0, 0, 40]])
        self.check([begin(0, 0), book()], [[0], [0, 0, 0, 0, 0]])
        self.check([begin(5, 1000), book()], [[0], [0, 1000, 0, 0, 1000]])

    def test_changes_nothing(self):
        self.check_unchanging([begin(2, 40)], book(), [0, 40, 0, 0, 40])
        self.check_unchanging([begin(0, 40), frame(1), frame(2), dip(0), dip(1), sell(0)], book(), [2, 38, 1, 1, 40])

    def test_wax_is_bought_and_in_the_vat(self):
        self.check(
            [begin(2, 40), wax(7), book(), wax(0), book(), wax(953), book(), wax(1), book()],
            [[0], [47], [0, 47, 0, 0, 47], [-1], [0, 47, 0, 0, 47],
             [1000], [0, 1000, 0, 0, 1000], [-1], [0, 1000, 0, 0, 1000]],
        )

    def test_frames_and_minutes(self):
        self.check(
            [begin(2, 40), frame(3), book(), wait(12), book()],
            [[0], [0], [0, 40, 0, 0, 40], [12], [12, 40, 0, 0, 40]],
        )

    def test_a_dip_takes_wax_onto_the_frame(self):
        self.check(
            [begin(0, 40), frame(3), frame(1), dip(0), book(), dip(0), book(), dip(1), book(), dip(0), book()],
            [[0], [0], [1], [1], [1, 39, 1, 0, 40], [2], [2, 37, 3, 0, 40], [1], [3, 36, 4, 0, 40],
             [3], [4, 33, 7, 0, 40]],
        )

    def test_six_layers(self):
        self.check(
            [begin(0, 21), frame(6), follow([1] * 6), book(), sell(0), book()],
            [[0], [0], [6, 6], [6, 0, 21, 0, 21], [21], [6, 0, 0, 21, 21]],
        )

    def test_a_refused_dip_takes_none(self):
        self.check(
            [begin(0, 2), frame(2), dip(0), dip(0), dip(1), book()],
            [[0], [0], [1], [-6], [-2], [1, 1, 1, 0, 2]],
        )

    def test_melting_gives_it_back(self):
        self.check(
            [begin(1, 9), frame(3), dip(0), wait(1), dip(0), book(), dip(0), book(), dip(0), book(), dip(0), book()],
            [[0], [0], [1], [2], [2], [3, 6, 3, 0, 9], [1], [4, 8, 1, 0, 9], [0], [5, 9, 0, 0, 9],
             [0], [6, 9, 0, 0, 9]],
        )

    def test_sold_with_frames(self):
        self.check(
            [begin(0, 9), frame(1), frame(2), frame(1), follow([1, 2, 2, 3]), book(), sell(0), book(), sell(1), book(),
             sell(1), book(), wax(3), book()],
            [[0], [0], [1], [2], [4, 4], [4, 4, 5, 0, 9], [1], [4, 4, 4, 1, 9], [3], [4, 4, 1, 4, 9],
             [-2], [4, 4, 1, 4, 9], [7], [4, 7, 1, 4, 12]],
        )

    def test_sold_with_more_layers_than_wanted(self):
        self.check(
            [begin(0, 9), frame(1), follow([1, 1, 1]), sell(0), book()],
            [[0], [0], [3, 3], [6], [3, 3, 0, 6, 9]],
        )

    def test_a_second_begin(self):
        before = [begin(0, 9), frame(1), frame(1), dip(0), dip(1), sell(0), wait(7), wax(4)]
        self.assertEqual(
            replies(*before, book(), begin(6, 3), book(), begin(2, 3), book())[len(before):],
            [[9, 11, 1, 1, 13], [-1], [9, 11, 1, 1, 13], [0], [0, 3, 0, 0, 3]],
        )

    def test_it_comes_out_even(self):
        sold = 0
        for number in range(1, 150):
            for answer in replies(*some_line(number))[1::2]:
                if answer != [-9]:
                    minute, vat, standing, gone, bought = answer
                    self.assertEqual(bought, vat + standing + gone)
                    self.assertGreaterEqual(min(answer), 0)
                    sold += gone
        self.assertGreater(sold, 0)


if __name__ == "__main__":
    unittest.main()
