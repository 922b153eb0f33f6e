"""Whole lines, number by number, and what the interface says of every line."""

import unittest

from dipvats.workshop import answers
from tests.lines import LineTest, all_calls, begin, dip, frame, line, look, sell, wait, wax


class Unchanging(list):
    """A list that can be read alone: what changes it fails, even if it's put right later."""

    def refuse(self, *args, **kwargs):
        raise AssertionError("what is handed in was changed")

    append = clear = extend = insert = pop = remove = reverse = sort = refuse
    __setitem__ = __delitem__ = __iadd__ = __imul__ = refuse


A_DAY = line(
    begin(2, 10), frame(2), frame(1), look(0), dip(0), look(0), dip(1), dip(0), dip(0),
    wait(3), dip(0), wait(2), dip(0), wax(5), sell(0), wait(2), sell(0), look(0), look(1), sell(1),
)

# minute 0: frame 0 takes 1 of 10; 1: frame 1 takes 1; 2: frame 0 is warm, 1 melts back; 3: it is
# warm again and has none to melt; 7: it takes 1; 10: it takes 2; the vat has 6, and 5 are bought.
A_DAY_TOLD = [
    1, 0, 1, 0, 1, 1, 3, 2, 0, 0, 1, 1, 3, 2, 1, 2, 1, 1, 1, 0, 1, 0,
    1, 7, 1, 1, 1, 10, 1, 2, 1, 11, 1, -3, 1, 13, 1, 3, 1, -2, 3, 1, 1, 0, 1, 1,
]


class WholeLineTest(unittest.TestCase):

    def test_a_day(self):
        self.assertEqual(answers(A_DAY), A_DAY_TOLD)

    def test_one_call(self):
        self.assertEqual(answers([0, 0, 0]), [1, 0])
        self.assertEqual(answers([0, 9, 2000]), [1, -1])
        self.assertEqual(answers([6, 0]), [1, -9])

    def test_sixty_calls(self):
        calls = line(begin(1, 1000), frame(6)) + line(*[dip(0), wait(1)] * 6) + line(*[look(0)] * 46)
        wanted = [1, 0, 1, 0]
        for k in range(1, 7):
            wanted += [1, k, 1, 2 * k]
        self.assertEqual(answers(calls), wanted + [3, 6, 6, 0] * 46)

    def test_whole_numbers_alone(self):
        given = answers(A_DAY)
        self.assertIs(type(given), list)
        self.assertEqual({type(number) for number in given}, {int})

    def test_the_list_handed_in_stays(self):
        handed = Unchanging(A_DAY)
        self.assertEqual(answers(handed), A_DAY_TOLD)
        self.assertEqual(list(handed), A_DAY)

    def test_what_is_given_back_is_another_list_each_time(self):
        first = answers(A_DAY)
        first.clear()
        self.assertEqual(answers(A_DAY), A_DAY_TOLD)

    def test_a_second_time_answers_as_the_first(self):
        self.assertEqual(answers(A_DAY), answers(A_DAY))
        self.assertEqual(answers(look(0)), [1, -9])
        self.assertEqual(answers(begin(5, 3)), [1, 0])
        self.assertEqual(answers(line(wait(1), begin(0, 0), frame(1))), [1, -9, 1, 0, 1, 0])


class NoWorkshopTest(LineTest):

    def test_all_but_begin_are_refused(self):
        # 0 and 9 would be refused for other reasons too: -9 comes first.
        for number in (0, 1, 9):
            for call in all_calls(number):
                with self.subTest(call=call):
                    self.check([call], [[-9]])
                    self.check_refused([], call, -9)

    def test_a_refused_begin_makes_none(self):
        self.check([begin(6, 0), wait(1), look(0)], [[-1], [-9], [-9]])

    def test_nothing_is_kept_from_ahead_of_begin(self):
        self.check(
            [frame(3), wax(7), wait(5), begin(1, 2), look(0), wax(1), wait(1), frame(2)],
            [[-9], [-9], [-9], [0], [-2], [3], [1], [0]],
        )


if __name__ == "__main__":
    unittest.main()
