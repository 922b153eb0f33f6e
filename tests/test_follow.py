"""Promise 13: follow."""

import unittest
from itertools import product

from tests.lines import (
    LineTest, PROBE, TO_99900, TO_99999, TO_100000, begin, book, dip, follow, frame, last, look, plan, replies, rest,
    sell, wait, wax,
)


def one_by_one(row):
    """The calls that do the same, if none of them is refused."""
    return [dip(number - 1) if number > 0 else wait(1) for number in row]


class FollowTest(LineTest):

    def check_as_one_by_one(self, before, row, passed):
        """So many minutes of the plan pass, and behind it all is as behind dips and waits one by one."""
        given = replies(*before, follow(row), *PROBE)
        calls = one_by_one(row[:passed])
        alone = replies(*before, *calls, *PROBE)
        self.assertTrue(all(answer[0] >= 0 for answer in alone[:len(before) + passed]))
        self.assertEqual(given[len(before) + 1:], alone[len(before) + passed:])
        minute = replies(*before, *calls, book())[-1][0]
        self.assertEqual(given[len(before)], [passed, minute])

    def test_a_plan_without_numbers(self):
        self.check_unchanging([begin(1, 9)], follow([]), [0, 0])
        self.check_unchanging([begin(1, 9), frame(2), dip(0), wait(3)], follow([]), [0, 4])

    def test_minutes_in_which_nothing_is_dipped(self):
        self.check([begin(3, 9), follow([0]), follow([0] * 60), wait(1)], [[0], [1, 1], [60, 61], [62]])
        self.check(
            [begin(3, 9), frame(1), dip(0), follow([0, 0]), look(0), follow([0]), look(0), book()],
            [[0], [0], [1], [2, 3], [1, 1, 1], [1, 4], [1, 1, 0], [4, 8, 1, 0, 9]],
        )
        self.check_as_one_by_one([begin(3, 9), frame(1), dip(0)], [0, 0, 0, 0], 4)

    def test_dips_that_put_a_layer_on(self):
        self.check(
            [begin(1, 9), frame(2), frame(1), follow([1, 2, 1]), look(0), look(1), book(), rest()],
            [[0], [0], [1], [3, 3], [2, 2, 1], [1, 1, 0], [3, 5, 4, 0, 9], [0, 0, 0]],
        )
        self.check_as_one_by_one([begin(1, 9), frame(2), frame(1)], [1, 2, 1], 3)

    def test_dips_that_melt_one_off(self):
        self.check(
            [begin(2, 9), frame(2), follow([1, 1]), look(0), book()],
            [[0], [0], [2, 2], [2, 0, 2], [2, 9, 0, 0, 9]],
        )
        # Warm without a layer: nothing melts, but it's warm anew.
        self.check(
            [begin(2, 9), frame(2), follow([1, 0, 1, 1, 0, 0, 1]), look(0), book()],
            [[0], [0], [7, 7], [2, 1, 2], [7, 8, 1, 0, 9]],
        )
        self.check_as_one_by_one([begin(2, 9), frame(2), dip(0)], [1, 0, 1, 1, 0, 0, 1, 1], 8)

    def test_six_layers_and_warm_melts_one_off(self):
        row = [1, 0] * 5 + [1, 1]
        self.check_as_one_by_one([begin(1, 30), frame(6)], row, 12)
        self.assertEqual(last(begin(1, 30), frame(6), follow(row), look(0)), [6, 5, 1])

    def test_the_workshops_minute_goes_on(self):
        self.check(
            [begin(0, 9), frame(1), wait(5), follow([0, 1]), follow([0]), wait(1)],
            [[0], [0], [5], [2, 7], [1, 8], [9]],
        )

    def test_warm_from_dips_ahead_of_it_and_behind_it(self):
        self.check(
            [begin(2, 9), frame(3), dip(0), follow([0, 1]), dip(0), look(0), sell(0)],
            [[0], [0], [1], [2, 3], [0], [3, 0, 2], [-4]],
        )

    def test_stops_at_a_frame_that_is_not_there(self):
        before = [begin(1, 9), frame(2), frame(2)]
        self.check(
            [*before, follow([1, 3, 2]), look(0), look(1), book()],
            [[0], [0], [1], [1, 1], [2, 1, 1], [2, 0, 0], [1, 8, 1, 0, 9]],
        )
        for wrong in range(3, 10):
            self.check_as_one_by_one(before, [1, 2, 0, wrong, 1, 0], 3)
            self.check_as_one_by_one(before, [wrong, 1], 0)
        self.check_as_one_by_one([begin(1, 9)], [0, 1, 0], 1)

    def test_stops_at_a_sold_frame(self):
        before = [begin(0, 9), frame(1), frame(2), dip(0), sell(0)]
        self.check_as_one_by_one(before, [2, 1, 2], 1)
        self.check_as_one_by_one(before, [1], 0)

    def test_stops_at_a_cool_frame_with_six_layers(self):
        self.check(
            [begin(0, 50), frame(2), frame(1), follow([1] * 60), look(0), book(), sell(0), book()],
            [[0], [0], [1], [6, 6], [2, 6, 0], [6, 29, 21, 0, 50], [21], [6, 29, 0, 21, 50]],
        )
        self.check_as_one_by_one([begin(0, 50), frame(2), frame(1)], [1, 1, 1, 1, 1, 2, 1, 1, 2, 0], 7)

    def test_stops_at_too_little_wax(self):
        self.check(
            [begin(0, 4), frame(3), frame(1), follow([1, 1, 1, 2, 0]), look(0), look(1), book(), dip(0), dip(1)],
            [[0], [0], [1], [2, 2], [3, 2, 0], [1, 0, 0], [2, 1, 3, 0, 4], [-6], [1]],
        )
        self.check_as_one_by_one([begin(0, 4), frame(3), frame(1)], [1, 1, 1, 2, 0], 2)
        self.check_as_one_by_one([begin(0, 0), frame(3)], [1, 0, 0], 0)
        # Just enough, and then not.
        self.check_as_one_by_one([begin(1, 3), frame(3)], [1, 0, 1, 0, 1], 4)

    def test_goes_on_behind_a_stop_by_another_call(self):
        self.check(
            [begin(0, 0), frame(1), follow([1]), wax(1), follow([1]), sell(0), follow([1]), book()],
            [[0], [0], [0, 0], [1], [1, 1], [1], [0, 1], [1, 0, 0, 1, 1]],
        )

    def test_every_short_plan(self):
        before = [begin(1, 3), frame(1), frame(2), dip(1)]
        for row in product(range(4), repeat=4):
            passed = 0
            for answer in replies(*before, *one_by_one(row))[len(before):]:
                if answer[0] < 0:
                    break
                passed += 1
            self.check_as_one_by_one(before, row, passed)

    def test_the_plan_gives_each_frame_its_layers(self):
        wanted = [3, 1, 2, 3]
        for cools in range(6):
            row = last(begin(cools, 0), plan(wanted))[1:]
            given = replies(begin(cools, 100), *[frame(k) for k in wanted], follow(row), rest(), book())
            self.assertEqual(
                given[-3:],
                [[len(row), len(row)], [0, 0, 0, 0, 0], [len(row), 84, 16, 0, 100]],
            )

    def test_till_minute_100000(self):
        self.assertEqual(last(begin(0, 9), *TO_99900, wait(40), follow([0] * 60)), [60, 100000])
        self.assertEqual(last(begin(0, 9), *TO_99999, follow([0, 0, 0])), [1, 100000])
        self.assertEqual(last(begin(0, 9), frame(6), *TO_99999, follow([1, 1])), [1, 100000])
        self.check_as_one_by_one([begin(1, 9), frame(6), *TO_99999], [1, 0, 1], 1)
        self.check_as_one_by_one([begin(1, 9), frame(6), *TO_99999], [0, 1], 1)

    def test_nothing_passes_in_minute_100000(self):
        before = [begin(1, 9), frame(1), *TO_100000]
        for row in ([], [0], [1], [2], [0, 1]):
            self.check_unchanging(before, follow(row), [0, 100000])


if __name__ == "__main__":
    unittest.main()
