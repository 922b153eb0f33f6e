"""Whole lines, number by number, and what the interface says of every line."""

import ast
import contextlib
import inspect
import io
import unittest

from dipvats import workshop
from dipvats.workshop import answers
from tests.lines import (
    LineTest, all_calls, begin, book, cooling, dip, follow, frame, judge, least, line, look, plan, rest, sell, wait,
    wax,
)


class Unchanging(list):
    """A list that can be read alone: what changes it fails, even if it's put right later."""

    def refuse(self, *args, **kwargs):
        raise AssertionError("what is handed in was changed")

    append = clear = extend = insert = pop = remove = reverse = sort = refuse
    __setitem__ = __delitem__ = __iadd__ = __imul__ = refuse


A_DAY = line(
    begin(2, 10), frame(2), frame(1), look(0), dip(0), look(0), dip(1), dip(0), dip(0),
    wait(3), dip(0), wait(2), dip(0), wax(5), sell(0), wait(2), sell(0), look(0), look(1), sell(1),
)

# minute 0: frame 0 takes 1 of 10; 1: frame 1 takes 1; 2: frame 0 is warm, 1 melts back; 3: it is
# warm again and has none to melt; 7: it takes 1; 10: it takes 2; the vat has 6, and 5 are bought.
A_DAY_TOLD = [
    1, 0, 1, 0, 1, 1, 3, 2, 0, 0, 1, 1, 3, 2, 1, 2, 1, 1, 1, 0, 1, 0,
    1, 7, 1, 1, 1, 10, 1, 2, 1, 11, 1, -3, 1, 13, 1, 3, 1, -2, 3, 1, 1, 0, 1, 1,
]

# Every call, as the numbers stand in the interface.
PLANS = [
    0, 1, 20,
    7, 2, 2, 1,
    8, 2, 2, 1,
    9, 2, 2, 1, 3, 1, 2, 1,
    9, 2, 2, 1, 4, 1, 0, 0, 1,
    9, 0, 2, 0, 7,
    9, 0, 0,
    10, 4, 2, 2, 1,
    10, 2, 2, 2, 1,
    1, 2, 1, 1,
    11,
    12, 3, 1, 2, 1,
    12, 0,
    13,
    4, 1, 5, 0, 6, 1, 3, 1, 2, 5,
    11,
    12, 2, 0, 1,
    13,
    7, 7, 0, 0, 0, 0, 0, 0, 0,
    8, 1, 7,
    8, 0,
]

PLANS_TOLD = [
    1, 0,
    1, 3,
    4, 3, 1, 2, 1,
    1, 0,
    2, -4, 1,
    2, -3, 1,
    1, 0,
    1, 2,
    1, -6,
    1, 0, 1, 1,
    3, 3, 2, 1,
    2, 3, 3,
    2, 0, 3,
    5, 3, 16, 4, 0, 20,
    1, 4, 1, 3, 3, 1, 1, 0, 1, 2, 1, 19,
    3, 0, 0, 0,
    2, 1, 6,
    5, 6, 19, 3, 3, 25,
    1, -1,
    1, -1,
    1, 0,
]


class WholeLineTest(unittest.TestCase):

    def test_a_day(self):
        self.assertEqual(answers(A_DAY), A_DAY_TOLD)

    def test_plans(self):
        self.assertEqual(answers(PLANS), PLANS_TOLD)

    def test_the_longest_line(self):
        longest = judge([0] * 8, [0] * 60)
        self.assertEqual(answers(longest * 60), [1, -9] * 60)
        self.assertEqual(answers(begin(5, 0) + longest * 59), [1, 0] + [1, -1] * 59)
        self.assertEqual(
            answers(begin(5, 0) + judge([6] * 6, [1, 2, 3, 4, 5, 6] * 6 + [0] * 24) * 59),
            [1, 0] + [1, 24] * 59,
        )

    def test_the_longest_answers(self):
        told = [37, 36] + [1, 2, 3, 4, 5, 6] * 6
        self.assertEqual(answers(begin(5, 0) + plan([6] * 6) * 59), [1, 0] + told * 59)

    def test_one_call(self):
        self.assertEqual(answers([0, 0, 0]), [1, 0])
        self.assertEqual(answers([0, 9, 2000]), [1, -1])
        self.assertEqual(answers([6, 0]), [1, -9])

    def test_sixty_calls(self):
        calls = line(begin(1, 1000), frame(6)) + line(*[dip(0), wait(1)] * 6) + line(*[look(0)] * 46)
        wanted = [1, 0, 1, 0]
        for k in range(1, 7):
            wanted += [1, k, 1, 2 * k]
        self.assertEqual(answers(calls), wanted + [3, 6, 6, 0] * 46)

    def test_whole_numbers_alone(self):
        for calls in (A_DAY, PLANS):
            given = answers(calls)
            self.assertIs(type(given), list)
            self.assertEqual({type(number) for number in given}, {int})

    def test_the_list_handed_in_stays(self):
        for calls, told in ((A_DAY, A_DAY_TOLD), (PLANS, PLANS_TOLD)):
            handed = Unchanging(calls)
            self.assertEqual(answers(handed), told)
            self.assertEqual(list(handed), calls)

    def test_what_is_given_back_is_another_list_each_time(self):
        for calls, told in ((A_DAY, A_DAY_TOLD), (PLANS, PLANS_TOLD)):
            first = answers(calls)
            first.clear()
            self.assertEqual(answers(calls), told)

    def test_nothing_is_printed(self):
        shown = io.StringIO()
        with contextlib.redirect_stdout(shown), contextlib.redirect_stderr(shown):
            answers(A_DAY)
            answers(PLANS)
        self.assertEqual(shown.getvalue(), "")

    def test_nothing_is_imported(self):
        tree = ast.parse(inspect.getsource(workshop))
        self.assertEqual([node for node in ast.walk(tree) if isinstance(node, (ast.Import, ast.ImportFrom))], [])

    def test_a_second_time_answers_as_the_first(self):
        self.assertEqual(answers(A_DAY), answers(A_DAY))
        self.assertEqual(answers(PLANS), answers(PLANS))
        self.assertEqual(answers(book()), [1, -9])
        self.assertEqual(answers(look(0)), [1, -9])
        self.assertEqual(answers(begin(5, 3)), [1, 0])
        self.assertEqual(answers(line(wait(1), begin(0, 0), frame(1))), [1, -9, 1, 0, 1, 0])


class NoWorkshopTest(LineTest):

    def test_all_but_begin_are_refused(self):
        # 0 and 9 would be refused for other reasons too: -9 comes first.
        for number, wanted, row in ((0, [], []), (1, [2, 1], [1, 2, 0, 1]), (9, [9] * 8, [9] * 60)):
            for call in all_calls(number, wanted, row):
                with self.subTest(call=call):
                    self.check([call], [[-9]])
                    self.check_refused([], call, -9)

    def test_the_next_call_is_read_at_the_right_place(self):
        # In these rows every number is a call's number too.
        for wanted in ([], [0], [1], [7, 8, 9], [0, 9, 0, 0, 0, 0, 0, 0], [9] * 8):
            for row in ([], [0], [3], [0, 5, 9, 4, 0, 9], [0] * 60, [9] * 60, list(range(10)) * 6):
                for call in all_calls(0, wanted, row):
                    self.check(
                        [call, wait(3), call, begin(2, 5), book(), call],
                        [[-9], [-9], [-9], [0], [0, 5, 0, 0, 5], self.told_in_a_new_one(call)],
                    )

    def told_in_a_new_one(self, call):
        given = answers(line(begin(2, 5), call))
        self.assertEqual(given[:2], [1, 0])
        self.assertEqual(len(given), 3 + given[2])
        return given[3:]

    def test_each_row_is_read_to_its_end_in_a_workshop_too(self):
        for wanted, row in (([], []), ([0], [0] * 60), ([9] * 8, [0, 5, 9] * 20), ([0, 1, 0], [2])):
            for call in all_calls(1, wanted, row):
                given = answers(line(begin(2, 5), call, call, begin(0, 7), book()))
                self.assertEqual(given[-8:], [1, 0, 5, 0, 7, 0, 0, 7])

    def test_a_refused_begin_makes_none(self):
        self.check([begin(6, 0), wait(1), look(0)], [[-1], [-9], [-9]])

    def test_nothing_is_kept_from_ahead_of_begin(self):
        self.check(
            [frame(3), wax(7), wait(5), begin(1, 2), look(0), wax(1), wait(1), frame(2)],
            [[-9], [-9], [-9], [0], [-2], [3], [1], [0]],
        )
        self.check(
            [follow([0, 0]), plan([3]), begin(1, 2), book(), rest(), least([2]), cooling(2, [2])],
            [[-9], [-9], [0], [0, 2, 0, 0, 2], [0], [3], [0]],
        )


if __name__ == "__main__":
    unittest.main()
