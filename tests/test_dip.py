"""Promise 4: dip, and what the document says of warm and cool frames and of layers."""

import unittest

from tests.lines import LineTest, begin, dip, frame, look, replies, sell, wait, wax

SIX_LAYERS = [begin(0, 1000), frame(6)] + [dip(0)] * 6


class CoolFrameTest(LineTest):

    def test_gets_a_layer_more_and_the_kth_takes_k(self):
        calls = [begin(0, 0), frame(6)]
        wanted = [[0], [0]]
        for k in range(1, 7):
            calls += [wax(k), dip(0), look(0), wax(1)]
            # One more is bought each time than the layers take, so the vat holds that many.
            wanted += [[k + k - 1], [k], [6, k, 0], [k]]
        self.check(calls, wanted)

    def test_just_as_much_wax_as_the_layer_takes_and_1_less(self):
        for k in range(1, 7):
            below = k * (k - 1) // 2
            layers = [[n] for n in range(1, k)]
            with self.subTest(layer=k):
                self.check(
                    [begin(0, below + k), frame(6)] + [dip(0)] * k + [wax(1)],
                    [[0], [0]] + layers + [[k], [1]],
                )
                self.check_refused([begin(0, below + k - 1), frame(6)] + [dip(0)] * (k - 1), dip(0), -6)

    def test_may_get_more_layers_than_it_wants(self):
        self.check(
            [begin(0, 100), frame(1)] + [dip(0)] * 7 + [look(0)],
            [[0], [0], [1], [2], [3], [4], [5], [6], [-7], [1, 6, 0]],
        )

    def test_takes_a_minute(self):
        self.check([begin(0, 100), frame(2), dip(0), wait(1), dip(0), wait(3)], [[0], [0], [1], [2], [2], [6]])

    def test_frames_share_the_vat_and_the_minutes(self):
        self.check(
            [begin(1, 4), frame(2), frame(2), dip(0), dip(1), dip(0), look(0), look(1), dip(1), wax(2), dip(1)],
            [[0], [0], [1], [1], [1], [2], [2, 2, 1], [2, 1, 0], [-6], [2], [2]],
        )

    def test_six_layers(self):
        self.check_refused(SIX_LAYERS, dip(0), -7)
        self.check_refused([begin(3, 1000), frame(6)] + [dip(0), wait(3)] * 6, dip(0), -7)


class WarmFrameTest(LineTest):

    def test_the_topmost_layer_melts_back(self):
        # The third layer's 3 measures are back: 10 - 1 - 2 - 3 + 3, and 1 that's bought.
        self.check(
            [begin(1, 10), frame(3), dip(0), wait(1), dip(0), wait(1), dip(0), dip(0), wax(1), look(0)],
            [[0], [0], [1], [2], [2], [4], [3], [2], [8], [3, 2, 1]],
        )

    def test_layer_after_layer_till_it_has_none(self):
        calls = [begin(5, 6), frame(1), dip(0), wait(5), dip(0), wait(5), dip(0)]
        self.check(
            calls + [dip(0), wax(1), dip(0), wax(1), dip(0), wax(1), dip(0), wax(1), look(0)],
            [[0], [0], [1], [6], [2], [12], [3], [2], [4], [1], [7], [0], [9], [0], [10], [1, 0, 5]],
        )

    def test_without_layers_it_takes_a_minute_and_is_warm_anew(self):
        self.check(
            [begin(2, 5), frame(1), dip(0), dip(0), wait(1), look(0), dip(0), look(0), wait(2), look(0), dip(0)],
            [[0], [0], [1], [0], [3], [1, 0, 1], [0], [1, 0, 2], [6], [1, 0, 0], [1]],
        )

    def test_melting_makes_it_warm_anew(self):
        self.check(
            [begin(3, 9), frame(2), dip(0), wait(2), look(0), dip(0), look(0)],
            [[0], [0], [1], [3], [2, 1, 1], [0], [2, 0, 3]],
        )

    def test_with_six_layers_it_melts(self):
        calls = [begin(1, 21), frame(6)] + [dip(0), wait(1)] * 5 + [dip(0)]
        given = replies(*calls, dip(0), look(0), wax(1))
        self.assertEqual(given[-4:], [[6], [5], [6, 5, 1], [7]])

    def test_needs_no_wax_in_the_vat(self):
        self.check([begin(1, 1), frame(1), dip(0), dip(0), dip(0)], [[0], [0], [1], [0], [0]])
        self.check(
            [begin(1, 2), frame(1), frame(1), dip(0), dip(0), dip(1), dip(0), wax(1)],
            [[0], [0], [1], [1], [0], [1], [1], [1]],
        )

    def test_what_melted_can_be_dipped_into_by_another(self):
        self.check(
            [begin(4, 1), frame(1), frame(1), dip(0), dip(1), dip(0), dip(1), dip(1)],
            [[0], [0], [1], [1], [-6], [0], [1], [0]],
        )


class CoolingTest(LineTest):

    def test_the_last_warm_minute_and_the_first_cool_one(self):
        for cools in range(2, 6):
            dipped = [begin(cools, 50), frame(2), dip(0)]
            with self.subTest(cools=cools):
                self.check(
                    dipped + [wait(cools - 1), look(0), dip(0)],
                    [[0], [0], [1], [cools], [2, 1, 1], [0]],
                )
                self.check(
                    dipped + [wait(cools), look(0), dip(0)],
                    [[0], [0], [1], [cools + 1], [2, 1, 0], [2]],
                )

    def test_cools_1(self):
        dipped = [begin(1, 50), frame(2), dip(0)]
        self.check(dipped + [look(0), dip(0)], [[0], [0], [1], [2, 1, 1], [0]])
        self.check(dipped + [wait(1), look(0), dip(0)], [[0], [0], [1], [2], [2, 1, 0], [2]])

    def test_cools_0_is_never_warm(self):
        self.check(
            [begin(0, 50), frame(2), dip(0), look(0), dip(0), look(0), sell(0)],
            [[0], [0], [1], [2, 1, 0], [2], [2, 2, 0], [3]],
        )

    def test_other_frames_dips_are_minutes_too(self):
        self.check(
            [begin(2, 50), frame(2), frame(2), frame(2), dip(0), dip(1), dip(2), look(0), dip(0), look(1), dip(1)],
            [[0], [0], [1], [2], [1], [1], [1], [2, 1, 0], [2], [2, 1, 0], [2]],
        )

    def test_one_frames_dip_leaves_the_other_as_warm_as_it_was(self):
        self.check(
            [begin(5, 50), frame(2), frame(2), dip(0), look(1), dip(1), look(0), look(1)],
            [[0], [0], [1], [1], [2, 0, 0], [1], [2, 1, 4], [2, 1, 5]],
        )


class DipRefusedTest(LineTest):

    def test_no_such_frame(self):
        for number in (0, 5, 9):
            self.check_refused([begin(1, 5)], dip(number), -2)
        for number in (2, 6, 9):
            self.check_refused([begin(1, 5), frame(1), frame(1), dip(0)], dip(number), -2)

    def test_a_sold_one(self):
        self.check_refused([begin(0, 50), frame(1), frame(1), dip(0), sell(0)], dip(0), -2)
        # It has 6 layers, and the vat is empty: -2 comes ahead of -7 and -6.
        self.check_refused([begin(0, 21), frame(6)] + [dip(0)] * 6 + [sell(0)], dip(0), -2)

    def test_six_layers_come_ahead_of_too_little_wax(self):
        self.check_refused([begin(0, 21), frame(6)] + [dip(0)] * 6, dip(0), -7)

    def test_a_refused_dip_takes_no_minute(self):
        self.check([begin(0, 0), frame(1), dip(0), wait(1)], [[0], [0], [-6], [1]])
        self.check([begin(0, 0), dip(0), wait(1)], [[0], [-2], [1]])


if __name__ == "__main__":
    unittest.main()
